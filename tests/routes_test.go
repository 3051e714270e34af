package tests

import (
	"fmt"
	"math/rand"
	"slices"
	"testing"

	"loop.example/g00272/impl"
)

const (
	tenNet   = 10 << 24
	highHalf = 1 << 31
)

func route(net int64, bits int64, port int64) impl.Route {
	return impl.Route{Net: net, Bits: bits, Port: port}
}

// streets are routes that lie in one another, and some beside them.
func streets() []impl.Route {
	return []impl.Route{
		route(0, 0, 1), route(0, 1, 2), route(0, 32, 3),
		route(tenNet, 8, 10), route(tenNet, 24, 11), route(tenNet, 32, 12), route(tenNet+1, 32, 13), route(tenNet+256, 24, 14),
		route(highHalf, 1, 20), route(topAddress, 32, 100),
	}
}

// manyRoutes are so many, each of one address.
func manyRoutes(many int) []impl.Route {
	var out []impl.Route
	for i := range many {
		out = append(out, route(int64(5*i), 32, int64(i+1)))
	}
	return out
}

// reaches goes through the bits one by one, by the document's words: the upper ones are those of the net.
func reaches(r impl.Route, to int64) bool {
	for bit := int64(31); bit >= 32-r.Bits; bit-- {
		if r.Net>>bit&1 != to>>bit&1 {
			return false
		}
	}
	return true
}

func portIn(l []impl.Route, to int64) int64 {
	best := impl.Route{Bits: -1}
	for _, r := range l {
		if reaches(r, to) && r.Bits > best.Bits {
			best = r
		}
	}
	return best.Port
}

func rightRoutes() map[string][]impl.Route {
	var nested []impl.Route
	for bits := int64(13); bits <= 32; bits++ {
		nested = append(nested, route(highHalf, bits, bits))
	}
	return map[string][]impl.Route{
		"none":                    nil,
		"an empty list":           {},
		"streets":                 streets(),
		"bits 0":                  {route(0, 0, 1)},
		"bits 1":                  {route(highHalf, 1, 1)},
		"bits 31":                 {route(topAddress-1, 31, 1)},
		"bits 32, net 0":          {route(0, 32, 1)},
		"bits 32, the last net":   {route(topAddress, 32, 1)},
		"port 100":                {route(0, 0, 100)},
		"one net with two bits":   {route(tenNet, 8, 1), route(tenNet, 9, 1)},
		"the fewer bits behind":   {route(0, 32, 1), route(tenNet, 8, 1)},
		"MaxRoutes":               manyRoutes(impl.MaxRoutes),
		"MaxRoutes, of one net":   nested,
		"nets beside each other":  {route(4, 32, 1), route(5, 32, 1)},
		"all bits of the net set": {route(0xfffff000, 20, 7)},
	}
}

// wrongRoute breaks one rule each.
func wrongRoute() map[string]impl.Route {
	return map[string]impl.Route{
		"zero":                 {},
		"port 0":               route(tenNet, 8, 0),
		"port -1":              route(tenNet, 8, -1),
		"port 101":             route(tenNet, 8, 101),
		"port lowest":          route(tenNet, 8, lowest),
		"port highest":         route(tenNet, 8, highest),
		"bits -1":              route(0, -1, 1),
		"bits 33":              route(0, 33, 1),
		"bits 64":              route(0, 64, 1),
		"bits lowest":          route(0, lowest, 1),
		"bits highest":         route(0, highest, 1),
		"net -1":               route(-1, 32, 1),
		"net below, bits 1":    route(-highHalf, 1, 1),
		"net past the last":    route(topAddress+1, 32, 1),
		"net past it, bits 0":  route(topAddress+1, 0, 1),
		"net lowest":           route(lowest, 0, 1),
		"net highest":          route(highest, 32, 1),
		"bits 0, net 1":        route(1, 0, 1),
		"bits 0, the top bit":  route(highHalf, 0, 1),
		"bits 8, the lowest":   route(tenNet+1, 8, 1),
		"bits 8, the next bit": route(tenNet+1<<23, 8, 1),
		"bits 24, bit 7":       route(tenNet+128, 24, 1),
		"bits 31, the lowest":  route(topAddress, 31, 1),
	}
}

func wrongRoutes() map[string][]impl.Route {
	out := map[string][]impl.Route{
		"nets fall":             {route(tenNet, 8, 1), route(0, 8, 1)},
		"nets fall, bits rise":  {route(tenNet, 8, 1), route(0, 9, 1)},
		"bits fall":             {route(tenNet, 9, 1), route(tenNet, 8, 1)},
		"bits fall, ports rise": {route(tenNet, 32, 1), route(tenNet, 8, 2)},
		"two alike":             {route(tenNet, 8, 1), route(tenNet, 8, 1)},
		"alike but for ports":   {route(tenNet, 8, 1), route(tenNet, 8, 2)},
		"the last falls":        {route(0, 0, 1), route(tenNet, 8, 1), route(tenNet, 32, 1), route(0, 32, 1)},
		"too many":              manyRoutes(impl.MaxRoutes + 1),
		"many too many":         manyRoutes(100),
	}
	for name, r := range wrongRoute() {
		out[name] = []impl.Route{r}
		out["first: "+name] = []impl.Route{r, route(topAddress, 32, 1)}
		out["last: "+name] = []impl.Route{route(0, 0, 1), r}
	}
	return out
}

func TestWhichRoutesAreRight(t *testing.T) {
	for name, l := range rightRoutes() {
		if !impl.RoutesOk(l) {
			t.Errorf("%s: refused", name)
		}
		if port := impl.PortFor(l, 7); port != portIn(l, 7) {
			t.Errorf("%s: port %d for 7", name, port)
		}
	}
	for name, l := range wrongRoutes() {
		if impl.RoutesOk(l) {
			t.Errorf("%s: taken", name)
		}
		for _, to := range []int64{0, tenNet, topAddress, -1} {
			if port := impl.PortFor(l, to); port != -1 {
				t.Errorf("%s: port %d for %d", name, port, to)
			}
		}
		if got, ok := impl.Routed(l, route(tenNet, 16, 5)); ok || len(got) != 0 {
			t.Errorf("%s: routed %v %v", name, got, ok)
		}
	}
	for net := range int64(33) {
		for bits := range int64(33) {
			if got, want := impl.RoutesOk([]impl.Route{route(1<<net&topAddress, bits, 1)}), net >= 32-bits || net == 32; got != want {
				t.Errorf("bit %d, of %d bits: %v", net, bits, got)
			}
		}
	}
}

func TestPortsOfStreets(t *testing.T) {
	for to, want := range map[int64]int64{
		0: 3, 1: 2, 4: 2, highHalf - 1: 2, highHalf: 20, highHalf + 1: 20, topAddress - 1: 20, topAddress: 100,
		tenNet - 1: 2, tenNet: 12, tenNet + 1: 13, tenNet + 2: 11, tenNet + 255: 11, tenNet + 256: 14, tenNet + 511: 14, tenNet + 512: 10,
		tenNet + 1<<24 - 1: 10, tenNet + 1<<24: 2,
		-1: -1, topAddress + 1: -1, -tenNet: -1, lowest: -1, highest: -1,
	} {
		if got := impl.PortFor(streets(), to); got != want {
			t.Errorf("port %d for %d, not %d", got, to, want)
		}
	}
}

func TestAddressesThatNoRouteHas(t *testing.T) {
	for _, to := range []int64{0, 5, topAddress} {
		if got := impl.PortFor(nil, to); got != 0 {
			t.Errorf("no routes: port %d for %d", got, to)
		}
	}
	for _, to := range []int64{-1, topAddress + 1, lowest, highest} {
		if got := impl.PortFor(nil, to); got != -1 {
			t.Errorf("no routes: port %d for %d", got, to)
		}
	}
	l := []impl.Route{route(tenNet, 8, 1), route(tenNet+1<<24, 32, 2)}
	for to, want := range map[int64]int64{tenNet - 1: 0, tenNet: 1, tenNet + 1<<24 - 1: 1, tenNet + 1<<24: 2, tenNet + 1<<24 + 1: 0, 0: 0, topAddress: 0} {
		if got := impl.PortFor(l, to); got != want {
			t.Errorf("port %d for %d, not %d", got, to, want)
		}
	}
}

func checkRouted(t *testing.T, l []impl.Route, r impl.Route, want []impl.Route) {
	t.Helper()
	if got, ok := impl.Routed(l, r); !ok || !slices.Equal(got, want) {
		t.Errorf("%v into %v: %v %v, not %v", r, l, got, ok, want)
	}
}

func TestRoutesAreSetInTheirPlace(t *testing.T) {
	a, b, c := route(tenNet, 8, 1), route(tenNet, 24, 2), route(tenNet+256, 24, 3)
	checkRouted(t, nil, a, []impl.Route{a})
	checkRouted(t, []impl.Route{b}, a, []impl.Route{a, b})
	checkRouted(t, []impl.Route{a}, b, []impl.Route{a, b})
	checkRouted(t, []impl.Route{a, c}, b, []impl.Route{a, b, c})
	checkRouted(t, []impl.Route{a, b}, c, []impl.Route{a, b, c})
	checkRouted(t, []impl.Route{b, c}, a, []impl.Route{a, b, c})
	for i, old := range []impl.Route{a, b, c} {
		set := route(old.Net, old.Bits, 100)
		want := []impl.Route{a, b, c}
		want[i] = set
		checkRouted(t, []impl.Route{a, b, c}, set, want)
		checkRouted(t, []impl.Route{a, b, c}, old, []impl.Route{a, b, c})
	}
	// With the net of one and the bits of another it is in the place of none.
	checkRouted(t, []impl.Route{a, c}, route(tenNet+256, 25, 9), []impl.Route{a, c, route(tenNet+256, 25, 9)})
	checkRouted(t, []impl.Route{a, c}, route(0, 8, 9), []impl.Route{route(0, 8, 9), a, c})
}

func TestRoutesAtTheirLimit(t *testing.T) {
	almost, full := manyRoutes(impl.MaxRoutes-1), manyRoutes(impl.MaxRoutes)
	checkRouted(t, almost, full[impl.MaxRoutes-1], full)
	for i := range full {
		want := manyRoutes(impl.MaxRoutes)
		want[i].Port = 99
		checkRouted(t, full, want[i], want)
	}
	for _, r := range []impl.Route{route(0, 0, 1), route(0, 31, 1), route(2, 31, 1), route(1, 32, 1), route(5*impl.MaxRoutes, 32, 1), route(topAddress, 32, 1)} {
		if got, ok := impl.Routed(full, r); ok || len(got) != 0 {
			t.Errorf("%v is one too many: %v %v", r, got, ok)
		}
	}
}

func TestWrongRoutesAreNotSet(t *testing.T) {
	for name, r := range wrongRoute() {
		for _, l := range [][]impl.Route{nil, streets(), manyRoutes(impl.MaxRoutes), manyRoutes(impl.MaxRoutes + 1)} {
			if got, ok := impl.Routed(l, r); ok || len(got) != 0 {
				t.Errorf("%s: %v %v", name, got, ok)
			}
		}
	}
}

// someRoute lies near others, so that some lie in one another.
func someRoute(r *rand.Rand) impl.Route {
	bits := pick(r, []int64{0, 1, 2, 8, 9, 16, 24, 25, 30, 31, 32, r.Int63n(33)})
	net := pick(r, []int64{0, tenNet, tenNet + 256, highHalf, topAddress, r.Int63n(1 << 32)}) ^ r.Int63n(4)
	return route(net>>(32-bits)<<(32-bits), bits, 1+r.Int63n(100))
}

// atTheEnds are addresses at both ends of what each route has, and just beside.
func atTheEnds(r *rand.Rand, l []impl.Route) []int64 {
	out := []int64{0, 1, topAddress - 1, topAddress, r.Int63n(1 << 32)}
	for _, x := range l {
		last := x.Net + 1<<(32-x.Bits) - 1
		for _, to := range []int64{x.Net - 1, x.Net, x.Net + 1, last - 1, last, last + 1} {
			if to >= 0 && to <= topAddress {
				out = append(out, to)
			}
		}
	}
	return out
}

func isRouteAt(x impl.Route) func(impl.Route) bool {
	return func(y impl.Route) bool { return x.Net == y.Net && x.Bits == y.Bits }
}

// checkSet asks promise 8 of one route that is set.
func checkSet(t *testing.T, r *rand.Rand, l []impl.Route, x impl.Route, then []impl.Route) {
	t.Helper()
	if !impl.RoutesOk(then) || !slices.Contains(then, x) {
		t.Fatalf("%v into %v: %v", x, l, then)
	}
	others := slices.DeleteFunc(slices.Clone(then), isRouteAt(x))
	if !slices.Equal(others, slices.DeleteFunc(slices.Clone(l), isRouteAt(x))) {
		t.Fatalf("%v into %v changes others: %v", x, l, then)
	}
	for _, to := range atTheEnds(r, then) {
		ahead, behind := impl.PortFor(l, to), impl.PortFor(then, to)
		longer := slices.ContainsFunc(l, func(y impl.Route) bool { return reaches(y, to) && y.Bits > x.Bits })
		want := ahead
		if reaches(x, to) && !longer {
			want = x.Port
		}
		if behind != want || ahead != portIn(l, to) {
			t.Errorf("%v into %v: port %d for %d, not %d; it was %d", x, l, behind, to, want, ahead)
		}
	}
}

// Promise 8.
func TestTheLongestRouteIsTaken(t *testing.T) {
	r := rand.New(rand.NewSource(100))
	refused := 0
	for range 200 {
		var l []impl.Route
		for range 30 {
			x := someRoute(r)
			then, ok := impl.Routed(l, x)
			if full := len(l) == impl.MaxRoutes && !slices.ContainsFunc(l, isRouteAt(x)); ok == full {
				t.Fatal(fmt.Sprint(x, l, ok))
			}
			if !ok {
				refused++
				continue
			}
			checkSet(t, r, l, x, then)
			l = then
		}
	}
	if refused == 0 {
		t.Error("no list was ever full")
	}
}

func TestRoutesSetInAnyOrderAreTheSame(t *testing.T) {
	r := rand.New(rand.NewSource(101))
	for range 50 {
		var l []impl.Route
		for _, i := range r.Perm(len(streets())) {
			l, _ = impl.Routed(l, streets()[i])
		}
		if !slices.Equal(l, streets()) {
			t.Fatal(l)
		}
	}
}

package tests

import (
	"fmt"
	"math/rand"
	"slices"
	"strings"
	"sync"
	"testing"
	"unsafe"

	"loop.example/g00272/impl"
)

func checkRouteMemory(t *testing.T, plain []impl.Route, r impl.Route) {
	t.Helper()
	l := spareAll(plain)
	ahead := wholeText(l)
	got, ok := impl.Routed(l, r)
	second, _ := impl.Routed(l, r)
	impl.RoutesOk(l)
	impl.PortFor(l, tenNet)
	if wholeText(l) != ahead {
		t.Errorf("%v into %v: an argument was written into", r, plain)
	}
	if anyMeet(rooms(l), rooms(got)) || anyMeet(rooms(got), rooms(second)) {
		t.Errorf("%v into %v: an answer shares memory", r, plain)
	}
	if want, wantOk := impl.Routed(plain, r); ok != wantOk || !slices.Equal(got, want) || !slices.Equal(got, second) {
		t.Errorf("%v into %v: %v, without spare room %v", r, plain, got, want)
	}
	clear(got[:cap(got)])
	if wholeText(l) != ahead || ok && len(second) == 0 {
		t.Errorf("%v into %v: the routes handed in were written over", r, plain)
	}
}

func TestRoutesAreNotWrittenInto(t *testing.T) {
	asked := []impl.Route{{}, route(0, 0, 50), route(0, 32, 50), route(tenNet, 8, 50), route(tenNet, 16, 50), route(topAddress, 32, 50), route(1, 0, 50)}
	for _, l := range rightRoutes() {
		for _, r := range append(asked, l...) {
			checkRouteMemory(t, l, r)
		}
	}
	for _, l := range wrongRoutes() {
		for _, r := range asked {
			checkRouteMemory(t, l, r)
		}
	}
	r := rand.New(rand.NewSource(130))
	var l []impl.Route
	for range 60 {
		x := someRoute(r)
		checkRouteMemory(t, l, x)
		if then, ok := impl.Routed(l, x); ok {
			l = then
		}
	}
}

func TestRoutesStayWhenArgumentsChange(t *testing.T) {
	l := streets()
	got, _ := impl.Routed(l, route(tenNet, 16, 50))
	want := slices.Clone(got)
	clear(l)
	if !slices.Equal(got, want) {
		t.Error(got)
	}
}

func textRoom(s string) room {
	from := uintptr(unsafe.Pointer(unsafe.StringData(s)))
	return room{from, from + uintptr(len(s))}
}

// A short text that is a piece of a long one would keep all of that.
func TestTextsOfTheNetAreNewMemory(t *testing.T) {
	for _, size := range []int{1, 2, 50, impl.MaxBody} {
		body := longText("b", size)
		packet := impl.Packet{From: 1, To: 2, Kind: 3, Body: body}
		text := impl.PacketText(packet)
		read, readOk := impl.ReadPacket(text)
		record, sealOk := impl.Sealed(paperKey, 9, body)
		_, opened, openOk := impl.Opened(paperKey, record)
		if !readOk || !sealOk || !openOk {
			t.Fatal(size)
		}
		for _, pair := range [][2]string{{body, text}, {text, read.Body}, {body, record}, {record, opened}, {body, opened}} {
			if meet(textRoom(pair[0]), textRoom(pair[1])) {
				t.Errorf("%d bytes: an answer lies in an argument", size)
			}
		}
	}
}

// netText tells all that chapters 7 to 9 answer of some arguments.
func netText(l []impl.Route, x impl.Route, p impl.Packet, key string, w impl.Window, n int64) string {
	var b strings.Builder
	text := impl.PacketText(p)
	read, readOk := impl.ReadPacket(text)
	routes, routesOk := impl.Routed(l, x)
	stream, streamOk := impl.Stream(key, n, 77)
	record, sealOk := impl.Sealed(key, n, p.Body)
	nonce, body, openOk := impl.Opened(key, record)
	then, taken := impl.Taken(w, n)
	fmt.Fprintf(&b, "%d %q %v %v ", impl.Checksum(p.Body), text, read, readOk)
	fmt.Fprint(&b, impl.RoutesOk(l), impl.PortFor(l, p.To), len(routes), routes, routesOk)
	fmt.Fprintf(&b, "%d %q %v %q %v %d %q %v ", impl.BlockOf(key, n), stream, streamOk, record, sealOk, nonce, body, openOk)
	fmt.Fprint(&b, impl.WindowOk(w), then, taken)
	return b.String()
}

// The same arguments give the same answers, also from many sides at once.
func TestCallsOfTheNetBesideEachOther(t *testing.T) {
	type call struct {
		l   []impl.Route
		x   impl.Route
		p   impl.Packet
		key string
		w   impl.Window
		n   int64
	}
	ask := func(c call) string { return netText(c.l, c.x, c.p, c.key, c.w, c.n) }
	r := rand.New(rand.NewSource(131))
	packets := slices.Concat(somePackets(132), []impl.Packet{{From: -1}, {Kind: 256, Body: longText("b", impl.MaxBody+1)}})
	windows := slices.Concat(rightWindows(), wrongWindows())
	lists := [][]impl.Route{nil, streets(), manyRoutes(impl.MaxRoutes), manyRoutes(impl.MaxRoutes + 1)}
	var calls []call
	var wants []string
	for range 200 {
		c := call{spareAll(pick(r, lists)), someRoute(r), pick(r, packets), pick(r, []string{paperKey, someKey(r), "short"}), pick(r, windows), pick(r, []int64{-1, 0, 99, topNonce, topNonce + 1})}
		calls, wants = append(calls, c), append(wants, ask(c))
	}
	var all sync.WaitGroup
	for side := range 8 {
		all.Go(func() {
			for i := range calls {
				at := (i + 25*side) % len(calls)
				if got := ask(calls[at]); got != wants[at] {
					t.Errorf("beside others: %s, alone: %s", got, wants[at])
				}
			}
		})
	}
	all.Wait()
}

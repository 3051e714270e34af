package tests

import (
	"math/rand"
	"slices"
	"testing"

	"loop.example/g00272/impl"
)

func thread(l impl.Label, owns ...int64) impl.Thread {
	return impl.Thread{Id: 1, Label: l, Clear: label(2), Owns: owns}
}

func TestFlowsInOrdinaryCases(t *testing.T) {
	cases := []struct {
		a    string
		owns []int64
		b    string
		want bool
	}{
		{"1,5:3", nil, "1", false},
		{"1,5:3", []int64{5}, "1", true},
		{"1,5:3", []int64{4, 6}, "1", false},
		{"1,5:3,7:2", []int64{5}, "1", false},
		{"1,5:3,7:2", []int64{5, 7}, "1", true},
		{"1,5:3,7:2", []int64{5}, "1,7:2", true},
		{"1", nil, "1,5:0", false},
		{"1", []int64{5}, "1,5:0", true},
		{"2", []int64{5}, "1,5:3", false},
		{"2", rising(1, impl.MaxOwns), "1", false},
		{"0,1:3", []int64{1}, "0", true},
		{"0,9999:3", []int64{impl.MaxCat}, "0", true},
		{"3", nil, "3", true},
		{"0", []int64{}, "3", true},
	}
	for _, c := range cases {
		if got := impl.Flows(mustRead(t, c.a), c.owns, mustRead(t, c.b)); got != c.want {
			t.Errorf("Flows(%s, %v, %s) is %v", c.a, c.owns, c.b, got)
		}
	}
}

func TestFlowsAtTheLimitOfOwned(t *testing.T) {
	a, b := run(0, 1, impl.MaxOwns, 3), label(0)
	if !impl.Flows(a, rising(1, impl.MaxOwns), b) {
		t.Error("ten owned categories, all needed")
	}
	if impl.Flows(a, rising(1, impl.MaxOwns-1), b) || impl.Flows(a, rising(2, impl.MaxOwns), b) {
		t.Error("one that is needed is not owned")
	}
	if impl.Flows(a, rising(1, impl.MaxOwns+1), b) {
		t.Error("eleven owned categories")
	}
	if !impl.Flows(label(0), []int64{1, impl.MaxCat}, label(0)) {
		t.Error("the first category and the last")
	}
}

func TestFlowsWithWrongArguments(t *testing.T) {
	for name, l := range wrongLabels() {
		if impl.Flows(l, nil, label(3)) || impl.Flows(label(0), nil, l) || impl.Flows(l, []int64{5}, l) {
			t.Errorf("%s: it flows", name)
		}
	}
	for name, owns := range wrongOwns() {
		if impl.Flows(label(0), owns, label(3)) || impl.Flows(label(1, impl.Cat{Id: 5, Level: 3}), owns, label(1)) {
			t.Errorf("owned %s: it flows", name)
		}
	}
}

// ownedLists are such that each is a piece of some later one.
func ownedLists() [][]int64 {
	return [][]int64{nil, {1}, {2}, {impl.MaxCat}, {1, 2}, {1, impl.MaxCat}, {1, 2, impl.MaxCat}, {1, 2, 3, 4, 5, 6, 7, 8, 9, impl.MaxCat}}
}

func isPiece(some []int64, of []int64) bool {
	for _, n := range some {
		if !slices.Contains(of, n) {
			return false
		}
	}
	return true
}

func TestWithoutOwnedFlowingIsBeingBelow(t *testing.T) {
	all := append(smallLabels(), someLabels(150, 7)...)
	for _, a := range all {
		for _, b := range all {
			if impl.Flows(a, nil, b) != impl.Leq(a, b) || impl.Flows(a, []int64{}, b) != isBelow(a, b, nil) {
				t.Fatalf("%v and %v: flowing is not being below", a, b)
			}
		}
	}
}

func TestWithMoreOwnedNoLessFlows(t *testing.T) {
	all := append(smallLabels(), someLabels(60, 8)...)
	lists := ownedLists()
	for _, a := range all {
		for _, b := range all {
			for i, owns := range lists {
				flows := impl.Flows(a, owns, b)
				if flows != isBelow(a, b, owns) {
					t.Fatalf("Flows(%v, %v, %v) is %v", a, owns, b, flows)
				}
				for _, more := range lists[i:] {
					if flows && isPiece(owns, more) && !impl.Flows(a, more, b) {
						t.Fatalf("Flows(%v, %v, %v), but not with %v", a, owns, b, more)
					}
				}
			}
		}
	}
}

func TestThreadOkTakesTheEdges(t *testing.T) {
	right := map[string]impl.Thread{
		"id 1, all else zero": {Id: 1},
		"id 9":                {Id: impl.MaxThread},
		"made 30":             {Id: 1, Made: impl.MaxMade},
		"ten owned":           {Id: 1, Owns: rising(1, impl.MaxOwns)},
		"both ends owned":     {Id: 1, Owns: []int64{1, impl.MaxCat}},
		"owned side by side":  {Id: 1, Owns: []int64{5, 6}},
		"labels at the top":   {Id: 1, Label: label(impl.MaxLevel), Clear: label(impl.MaxLevel)},
		"label above clear":   {Id: 1, Label: label(3), Clear: label(0)},
		"twelve categories":   {Id: 1, Label: run(1, 1, 12, 2), Clear: run(2, 1, 12, 3)},
	}
	for name, x := range right {
		if !impl.ThreadOk(x) {
			t.Errorf("%s: %v is right", name, x)
		}
	}
}

func wrongThreads() map[string]impl.Thread {
	out := map[string]impl.Thread{
		"zero value":   {},
		"id 0":         {Id: 0, Label: label(1), Clear: label(2)},
		"id -1":        {Id: -1},
		"id 10":        {Id: impl.MaxThread + 1},
		"id lowest":    {Id: lowest},
		"id highest":   {Id: highest},
		"made -1":      {Id: 1, Made: -1},
		"made 31":      {Id: 1, Made: impl.MaxMade + 1},
		"made lowest":  {Id: 1, Made: lowest},
		"made highest": {Id: 1, Made: highest},
	}
	for name, l := range wrongLabels() {
		out["label "+name] = impl.Thread{Id: 1, Label: l}
		out["clear "+name] = impl.Thread{Id: 1, Clear: l}
	}
	for name, owns := range wrongOwns() {
		out["owns "+name] = impl.Thread{Id: 1, Owns: owns}
	}
	return out
}

func TestWrongThreadsDoNothing(t *testing.T) {
	for name, x := range wrongThreads() {
		if impl.ThreadOk(x) {
			t.Errorf("%s: %v is not right", name, x)
		}
		for _, l := range []impl.Label{x.Label, label(0), label(1), label(3)} {
			if impl.Sees(x, l) || impl.Changes(x, l) || impl.Reaches(x, l) {
				t.Errorf("%s: it sees, changes or reaches %v", name, l)
			}
		}
	}
	for name, l := range wrongLabels() {
		for _, x := range []impl.Thread{thread(label(0)), thread(label(3)), thread(label(1), rising(1, impl.MaxOwns)...)} {
			if impl.Sees(x, l) || impl.Changes(x, l) || impl.Reaches(x, l) {
				t.Errorf("%s: it is seen, changed or reached", name)
			}
		}
	}
}

func TestWhatAThreadMayDo(t *testing.T) {
	plain, owner := thread(label(1)), thread(label(1), 5)
	cases := []struct {
		x                      impl.Thread
		l                      string
		sees, changes, reaches bool
	}{
		{plain, "1", true, true, true},
		{plain, "0", true, false, false},
		{plain, "2", false, false, true},
		{plain, "1,5:3", false, false, true},
		{plain, "1,5:0", true, false, false},
		{plain, "1,5:3,7:0", false, false, false},
		{owner, "1,5:3", true, true, true},
		{owner, "1,5:0", true, true, true},
		{owner, "1,5:0,7:2", false, false, true},
		{owner, "1,5:3,7:0", true, false, false},
		{owner, "2,5:0", false, false, true},
		{owner, "0,5:3", true, false, false},
	}
	for _, c := range cases {
		l := mustRead(t, c.l)
		if impl.Sees(c.x, l) != c.sees || impl.Changes(c.x, l) != c.changes || impl.Reaches(c.x, l) != c.reaches {
			t.Errorf("%v and %s: sees %v, changes %v, reaches %v", c.x, c.l, impl.Sees(c.x, l), impl.Changes(c.x, l), impl.Reaches(c.x, l))
		}
	}
}

func someThreads() []impl.Thread {
	r := rand.New(rand.NewSource(9))
	var out []impl.Thread
	for i, l := range append(smallLabels(), someLabels(20, 10)...) {
		lists := ownedLists()
		for _, owns := range [][]int64{nil, lists[i%len(lists)], someCats(r, 20, r.Intn(impl.MaxOwns+1))} {
			out = append(out, impl.Thread{Id: 1 + int64(i)%impl.MaxThread, Label: l, Clear: label(2), Owns: owns, Made: int64(i) % 31})
		}
	}
	return out
}

func TestSeesChangesReachesByFlows(t *testing.T) {
	for _, x := range someThreads() {
		for _, l := range append(smallLabels(), someLabels(40, 11)...) {
			in, out := isBelow(l, x.Label, x.Owns), isBelow(x.Label, l, x.Owns)
			if impl.Sees(x, l) != in || impl.Reaches(x, l) != out || impl.Changes(x, l) != (in && out) {
				t.Fatalf("%v and %v: in %v, out %v", x, l, in, out)
			}
		}
	}
}

func TestWhoChangesWhatIsSeenIsFelt(t *testing.T) {
	all := smallLabels()
	changed, seen := 0, 0
	for _, x := range someThreads() {
		for _, l := range all {
			changes, sees := impl.Changes(x, l), impl.Sees(x, l) && len(x.Owns) == 0
			for _, o := range all {
				if changes && impl.Leq(l, o) {
					changed++
					if !impl.Reaches(x, o) {
						t.Fatalf("%v changes %v, which %v sees, and is not felt", x, l, o)
					}
				}
				if sees && impl.Reaches(x, o) {
					seen++
					if !impl.Leq(l, o) {
						t.Fatalf("%v sees %v and is felt by %v, which does not see it", x, l, o)
					}
				}
			}
		}
	}
	if changed == 0 || seen == 0 {
		t.Error("none of these is changed or seen: the test says too little")
	}
}

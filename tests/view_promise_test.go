package tests

import (
	"math/rand"
	"slices"
	"strings"
	"testing"

	"loop.example/g00272/impl"
)

// isInOrder tells whether the lines of one view stand in another, in their order.
func isInOrder(some []string, all []string) bool {
	for _, line := range all {
		if len(some) > 0 && some[0] == line {
			some = some[1:]
		}
	}
	return len(some) == 0
}

func viewLines(k impl.Kernel, o impl.Label) []string {
	return strings.Split(impl.ViewOf(k, o), "\n")[1:]
}

func TestAHigherObserverSeesNoLess(t *testing.T) {
	r := rand.New(rand.NewSource(60))
	higher, more := 0, 0
	for range 100 {
		k := someKernel(r)
		for _, o := range observers() {
			for _, p := range observers() {
				if !isBelow(o, p, nil) {
					continue
				}
				higher++
				low, high := impl.Seen(k, o), impl.Seen(k, p)
				if !isPiece(low, high) {
					t.Fatalf("%v are seen by %v, and %v by %v, of\n%s", low, o, high, p, kernelText(k))
				}
				if !isInOrder(viewLines(k, o), viewLines(k, p)) {
					t.Fatalf("%q by %v, and %q by %v", impl.ViewOf(k, o), o, impl.ViewOf(k, p), p)
				}
				if len(low) < len(high) {
					more++
				}
			}
		}
	}
	if higher < 1000 || more < 500 {
		t.Errorf("%d pairs, %d of them see more: the test says too little", higher, more)
	}
}

func TestDataThatAreNotSeenAreNothingToAView(t *testing.T) {
	r := rand.New(rand.NewSource(61))
	changed, shown := 0, 0
	for range 300 {
		k := someKernel(r)
		for _, o := range observers() {
			hid := other(k, o)
			if kernelText(hid) == kernelText(k) {
				continue
			}
			changed++
			if !impl.KernelOk(hid) {
				t.Fatal(kernelText(hid))
			}
			if v, w := impl.ViewOf(k, o), impl.ViewOf(hid, o); v != w || v == "" || impl.Tidy(k, o) != impl.Tidy(hid, o) {
				t.Fatalf("%v sees\n%s, and\n%s when other data stand in what it does not see", o, v, w)
			}
			if !slices.Equal(impl.Seen(k, o), impl.Seen(hid, o)) {
				t.Fatalf("%v sees other objects when other data stand in what it does not see", o)
			}
			if impl.ViewOf(k, label(3)) != impl.ViewOf(hid, label(3)) {
				shown++
			}
		}
	}
	if changed < 1000 || shown < 500 {
		t.Errorf("%d changed, %d of them seen by another: the test says too little", changed, shown)
	}
}

// Promise 4, the last sentence.
func TestAThreadThatIsNotFeltChangesNoView(t *testing.T) {
	t.Parallel()
	r := rand.New(rand.NewSource(62))
	done := map[int64]int{}
	for range 6000 {
		o := pick(r, observers())
		k := someTidyKernel(r, o)
		for range 4 {
			s := someStep(r, k)
			then, code, _ := impl.Done(k, s)
			if impl.Tidy(k, o) && !feltIn(k, s.Thread, o) && !feltIn(then, s.Thread, o) {
				if v, w := impl.ViewOf(k, o), impl.ViewOf(then, o); v != w {
					t.Fatalf("%v, by a thread that %v does not feel, led from\n%s to\n%s", s, o, v, w)
				}
				if code == impl.AnDone && kernelText(k) != kernelText(then) {
					done[s.Kind]++
				}
			}
			k = then
		}
	}
	for _, kind := range []int64{impl.SyCat, impl.SyMake, impl.SyQueue, impl.SyBox, impl.SyGate, impl.SyWrite, impl.SyCopy, impl.SyPut, impl.SyTake, impl.SyDrop, impl.SyRaise, impl.SyEnter, impl.SyLeave} {
		if done[kind] < 10 {
			t.Errorf("kind %d changed a kernel %d times: the test says too little", kind, done[kind])
		}
	}
}

// What the promise leaves out does change views: a kernel that is not tidy, and a thread that can be felt then.
func TestWhereAViewMayChange(t *testing.T) {
	one, high := label(1), secret()
	k := impl.Kernel{
		Threads: []impl.Thread{{Id: 1, Label: high, Clear: label(2), Made: 4}},
		Objects: []impl.Object{rootBox(one), boxIn(1, 1001, high), segmentIn(1001, 1002, one, "seen"), gateIn(1, 1003, one, label(3), 1001)},
	}
	dropped, code, _ := impl.Done(k, simple(1, impl.SyDrop, 1002))
	if impl.Tidy(k, one) || code != impl.AnDone || impl.ViewOf(dropped, one) == impl.ViewOf(k, one) {
		t.Error("a thread that is not felt drops what is seen, out of a box that is not")
	}
	entered, code, _ := impl.Done(dropped, simple(1, impl.SyEnter, 1003))
	if !impl.Tidy(dropped, one) || code != impl.AnDone || impl.ViewOf(entered, one) != "view 1\nthread 1 1,1001:2 2 4 1001\nobject 1 3 0 1 0 1001 1003\nobject 1003 4 1 1 3 1001\n" {
		t.Errorf("%q", impl.ViewOf(entered, one))
	}
}

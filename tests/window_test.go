package tests

import (
	"fmt"
	"math/rand"
	"testing"

	"loop.example/g00272/impl"
)

const allBits = 1<<impl.Wide - 1

func window(top int64, bits int64) impl.Window { return impl.Window{Top: top, Bits: bits} }

func rightWindows() []impl.Window {
	return []impl.Window{
		{}, window(0, 1), window(5, 1), window(5, 5), window(100, allBits), window(100, 1<<31|1), window(100, 1<<31-1),
		window(impl.Wide-1, allBits), window(topNonce, 1), window(topNonce, allBits), window(topNonce-1, 1<<31|1), window(impl.Wide, 3),
		// By the document's words a bit may stand for a number below 0.
		window(0, 3), window(0, allBits),
	}
}

func wrongWindows() []impl.Window {
	return []impl.Window{
		window(1, 0), window(-1, 0), window(topNonce, 0), window(topNonce+1, 0), window(highest, 0), window(lowest, 0),
		window(-1, 1), window(lowest, 1), window(topNonce+1, 1), window(highest, 1), window(-1, allBits),
		window(5, 2), window(0, 2), window(5, 4), window(5, allBits-1), window(100, 1<<31),
		window(5, allBits+1), window(5, allBits+2), window(5, 1<<33|1), window(5, highest), window(0, allBits+2),
		window(5, -1), window(0, -1), window(5, lowest), window(5, lowest+1), window(5, -2),
	}
}

func TestWhichWindowsAreRight(t *testing.T) {
	for _, w := range rightWindows() {
		if !impl.WindowOk(w) {
			t.Errorf("%v is refused", w)
		}
	}
	for _, w := range wrongWindows() {
		if impl.WindowOk(w) {
			t.Errorf("%v is taken", w)
		}
		for _, n := range []int64{0, 1, 5, 100, topNonce, -1} {
			if then, ok := impl.Taken(w, n); ok || then != (impl.Window{}) {
				t.Errorf("%v with %d: %v %v", w, n, then, ok)
			}
		}
	}
	for bit := range 64 {
		odd, even := window(1000, int64(uint64(1)<<bit|1)), window(1000, int64(uint64(1)<<bit))
		if impl.WindowOk(odd) != (bit < impl.Wide) || impl.WindowOk(even) != (bit == 0) {
			t.Errorf("bit %d", bit)
		}
	}
}

func TestNumbersThatAreTaken(t *testing.T) {
	for _, c := range []struct {
		w    impl.Window
		n    int64
		then impl.Window
		ok   bool
	}{
		// Nothing was taken: any number is the Top.
		{window(0, 0), 0, window(0, 1), true},
		{window(0, 0), 1, window(1, 1), true},
		{window(0, 0), 31, window(31, 1), true},
		{window(0, 0), 32, window(32, 1), true},
		{window(0, 0), topNonce, window(topNonce, 1), true},
		// At Top, and what was taken.
		{window(0, 1), 0, window(0, 1), false},
		{window(100, 1), 100, window(100, 1), false},
		{window(100, 5), 98, window(100, 5), false},
		{window(100, allBits), 69, window(100, allBits), false},
		{window(topNonce, 1), topNonce, window(topNonce, 1), false},
		// Below Top, and not taken.
		{window(100, 1), 99, window(100, 3), true},
		{window(100, 5), 99, window(100, 7), true},
		{window(100, 1), 69, window(100, 1<<31|1), true},
		{window(100, allBits&^2), 99, window(100, allBits), true},
		{window(5, 1), 0, window(5, 1<<5|1), true},
		{window(31, 1), 0, window(31, 1<<31|1), true},
		// Top - Wide, and less.
		{window(100, 1), 68, window(100, 1), false},
		{window(100, 1), 67, window(100, 1), false},
		{window(100, 1), 0, window(100, 1), false},
		{window(32, 1), 0, window(32, 1), false},
		{window(100, allBits), 68, window(100, allBits), false},
		{window(100, 1), 36, window(100, 1), false},
		{window(topNonce, 1), 0, window(topNonce, 1), false},
		{window(topNonce, allBits), topNonce - impl.Wide, window(topNonce, allBits), false},
		// Above Top: older ones fall out.
		{window(100, 1), 101, window(101, 3), true},
		{window(100, allBits), 101, window(101, allBits), true},
		{window(100, 1<<31|1), 101, window(101, 3), true},
		{window(100, 1<<30|1), 101, window(101, 1<<31|3), true},
		{window(100, 5), 103, window(103, 5<<3|1), true},
		{window(100, 1), 131, window(131, 1<<31|1), true},
		{window(100, allBits), 131, window(131, 1<<31|1), true},
		{window(100, allBits), 132, window(132, 1), true},
		{window(100, allBits), 133, window(133, 1), true},
		{window(100, allBits), 164, window(164, 1), true},
		{window(100, allBits), topNonce, window(topNonce, 1), true},
		{window(0, 1), 1, window(1, 3), true},
		{window(0, 1), 32, window(32, 1), true},
		{window(0, 3), 1, window(1, 7), true},
		{window(topNonce-1, 1), topNonce, window(topNonce, 3), true},
	} {
		if then, ok := impl.Taken(c.w, c.n); ok != c.ok || then != c.then {
			t.Errorf("%v with %d: %v %v, not %v %v", c.w, c.n, then, ok, c.then, c.ok)
		}
	}
}

func TestNumbersThatAreNone(t *testing.T) {
	for _, w := range append(rightWindows(), wrongWindows()...) {
		for _, n := range []int64{-1, -2, -impl.Wide, topNonce + 1, topNonce + 2, lowest, highest} {
			if then, ok := impl.Taken(w, n); ok || then != (impl.Window{}) {
				t.Errorf("%v with %d: %v %v", w, n, then, ok)
			}
		}
	}
}

// A ledger is what the document's words say of a window: which numbers were taken, and the greatest one.
type ledger struct {
	taken map[int64]int
	top   int64
}

func (l ledger) takes(n int64) bool {
	if len(l.taken) == 0 {
		return true
	}
	return l.taken[n] == 0 && n > l.top-impl.Wide
}

func (l ledger) window() impl.Window {
	w := impl.Window{Top: l.top}
	for i := range int64(impl.Wide) {
		if l.taken[l.top-i] > 0 {
			w.Bits |= 1 << i
		}
	}
	return w
}

func someNumber(r *rand.Rand, top int64) int64 {
	switch r.Intn(8) {
	case 0:
		return min(top+r.Int63n(3*impl.Wide), topNonce)
	case 1:
		return min(top+1, topNonce)
	case 2:
		return max(top-impl.Wide+r.Int63n(3)-1, 0)
	case 3:
		return pick(r, []int64{0, top, min(top+impl.Wide, topNonce), min(top+impl.Wide-1, topNonce)})
	}
	return max(top-r.Int63n(impl.Wide+2), 0)
}

// The last sentence of promise 9, and each window held against the document's words.
func TestANumberIsTakenOnce(t *testing.T) {
	r := rand.New(rand.NewSource(120))
	for turn := range 200 {
		var w impl.Window
		book := ledger{taken: map[int64]int{}, top: pick(r, []int64{0, 10, 100, topNonce - 300})}
		for range 300 {
			n := someNumber(r, book.top)
			then, ok := impl.Taken(w, n)
			if ok != book.takes(n) {
				t.Fatal(fmt.Sprint("turn ", turn, ": ", w, " with ", n, ": ", ok))
			}
			if ok {
				if len(book.taken) == 0 {
					book.top = n
				}
				book.taken[n]++
				book.top = max(book.top, n)
			}
			if len(book.taken) > 0 && then != book.window() || !impl.WindowOk(then) || !ok && then != w {
				t.Fatal(fmt.Sprint("turn ", turn, ": ", w, " with ", n, " leaves ", then))
			}
			if again, twice := impl.Taken(then, n); twice || again != then {
				t.Fatal(fmt.Sprint("turn ", turn, ": ", n, " is taken twice: ", again))
			}
			w = then
		}
	}
}

func TestNumbersOneBehindTheOther(t *testing.T) {
	var up, down impl.Window
	for i := range int64(100) {
		up, _ = impl.Taken(up, i)
		want := window(i, 1<<min(i+1, impl.Wide)-1)
		if up != want {
			t.Errorf("up to %d: %v, not %v", i, up, want)
		}
		then, ok := impl.Taken(down, 1000-i)
		if ok != (i < impl.Wide) || !ok && then != down {
			t.Errorf("down to %d: %v %v", 1000-i, then, ok)
		}
		down = then
	}
	if down != window(1000, allBits) {
		t.Error(down)
	}
}

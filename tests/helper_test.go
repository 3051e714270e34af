package tests

import (
	"math/rand"
	"reflect"
	"slices"
	"strings"
	"testing"

	"loop.example/g00272/impl"
)

const (
	lowest  = -1 << 63
	highest = 1<<63 - 1
)

func label(base int64, cats ...impl.Cat) impl.Label { return impl.Label{Base: base, Cats: cats} }

// run makes a label with so many categories, from first on, all at one level.
func run(base int64, first int64, many int64, level int64) impl.Label {
	l := impl.Label{Base: base}
	for i := range many {
		l.Cats = append(l.Cats, impl.Cat{Id: first + i, Level: level})
	}
	return l
}

func rising(first int64, many int64) []int64 {
	var out []int64
	for i := range many {
		out = append(out, first+i)
	}
	return out
}

func isZero(l impl.Label) bool { return l.Base == 0 && len(l.Cats) == 0 }

func same(a impl.Label, b impl.Label) bool {
	return a.Base == b.Base && slices.Equal(a.Cats, b.Cats)
}

// levelIn reads a right label by the document's words alone, so that the tests do not lean on the program.
func levelIn(l impl.Label, cat int64) int64 {
	for _, c := range l.Cats {
		if c.Id == cat {
			return c.Level
		}
	}
	return l.Base
}

// asked are categories at which two labels can differ: those that one names, and some that neither may.
func asked(a impl.Label, b impl.Label) []int64 {
	out := []int64{1, 2, 4321, impl.MaxCat - 1, impl.MaxCat}
	for _, c := range slices.Concat(a.Cats, b.Cats) {
		out = append(out, c.Id)
	}
	return out
}

func isBelow(a impl.Label, b impl.Label, but []int64) bool {
	if a.Base > b.Base {
		return false
	}
	for _, cat := range asked(a, b) {
		if !slices.Contains(but, cat) && levelIn(a, cat) > levelIn(b, cat) {
			return false
		}
	}
	return true
}

// smallLabels are all right labels that name no category but the two at the ends.
func smallLabels() []impl.Label {
	var out []impl.Label
	for base := int64(0); base <= impl.MaxLevel; base++ {
		for first := int64(0); first <= impl.MaxLevel; first++ {
			for last := int64(0); last <= impl.MaxLevel; last++ {
				l := impl.Label{Base: base}
				if first != base {
					l.Cats = append(l.Cats, impl.Cat{Id: 1, Level: first})
				}
				if last != base {
					l.Cats = append(l.Cats, impl.Cat{Id: impl.MaxCat, Level: last})
				}
				out = append(out, l)
			}
		}
	}
	return out
}

// someLabels are right labels of all sizes, the same ones at each call.
func someLabels(many int, seed int64) []impl.Label {
	r := rand.New(rand.NewSource(seed))
	var out []impl.Label
	for range many {
		l := impl.Label{Base: r.Int63n(impl.MaxLevel + 1)}
		top := int64(20)
		if r.Intn(3) == 0 {
			top = impl.MaxCat
		}
		for _, id := range someCats(r, top, r.Intn(impl.MaxCats+1)) {
			level := r.Int63n(impl.MaxLevel)
			if level >= l.Base {
				level++
			}
			l.Cats = append(l.Cats, impl.Cat{Id: id, Level: level})
		}
		out = append(out, l)
	}
	return out
}

func someCats(r *rand.Rand, top int64, many int) []int64 {
	var out []int64
	for len(out) < many {
		if id := 1 + r.Int63n(top); !slices.Contains(out, id) {
			out = append(out, id)
		}
	}
	slices.Sort(out)
	return out
}

// wrongLabels break one rule each; name says which.
func wrongLabels() map[string]impl.Label {
	return map[string]impl.Label{
		"base -1":           label(-1),
		"base 4":            label(impl.MaxLevel + 1),
		"base lowest":       label(lowest),
		"base highest":      label(highest),
		"id 0":              label(1, impl.Cat{Id: 0, Level: 2}),
		"id -1":             label(1, impl.Cat{Id: -1, Level: 2}),
		"id 10000":          label(1, impl.Cat{Id: impl.MaxCat + 1, Level: 2}),
		"id 10000 last":     label(1, impl.Cat{Id: 5, Level: 2}, impl.Cat{Id: impl.MaxCat + 1, Level: 2}),
		"id lowest":         label(1, impl.Cat{Id: lowest, Level: 2}),
		"id highest":        label(1, impl.Cat{Id: highest, Level: 2}),
		"level -1":          label(1, impl.Cat{Id: 5, Level: -1}),
		"level 4":           label(1, impl.Cat{Id: 5, Level: impl.MaxLevel + 1}),
		"level is base":     label(1, impl.Cat{Id: 5, Level: 1}),
		"level is base 0":   label(0, impl.Cat{Id: 5, Level: 0}),
		"level is base 3":   label(3, impl.Cat{Id: 5, Level: 3}),
		"last is base":      label(1, impl.Cat{Id: 5, Level: 3}, impl.Cat{Id: 7, Level: 1}),
		"ids alike":         label(1, impl.Cat{Id: 5, Level: 2}, impl.Cat{Id: 5, Level: 2}),
		"ids alike, levels": label(1, impl.Cat{Id: 5, Level: 2}, impl.Cat{Id: 5, Level: 3}),
		"ids fall":          label(1, impl.Cat{Id: 7, Level: 2}, impl.Cat{Id: 5, Level: 2}),
		"ids fall last":     label(1, impl.Cat{Id: 5, Level: 2}, impl.Cat{Id: 7, Level: 2}, impl.Cat{Id: 6, Level: 2}),
		"too many":          run(1, 1, impl.MaxCats+1, 2),
		"zero category":     label(1, impl.Cat{}),
	}
}

// wrongOwns break one rule of owned categories each.
func wrongOwns() map[string][]int64 {
	return map[string][]int64{
		"0":         {0},
		"-1":        {-1},
		"10000":     {impl.MaxCat + 1},
		"last none": {5, impl.MaxCat + 1},
		"first 0":   {0, 5},
		"lowest":    {lowest},
		"highest":   {highest},
		"alike":     {5, 5},
		"fall":      {7, 5},
		"fall last": {5, 7, 6},
		"too many":  rising(1, impl.MaxOwns+1),
	}
}

func mustRead(t *testing.T, s string) impl.Label {
	t.Helper()
	l, ok := impl.ReadLabel(s)
	if !ok {
		t.Fatalf("ReadLabel(%q) is false", s)
	}
	return l
}

// spare lays a list at the front of a longer one, so that a write behind it can be told.
func spare[T any](list []T, behind T) []T {
	room := append(slices.Clone(list), behind, behind, behind)
	return room[:len(list)]
}

func spareLabel(l impl.Label) impl.Label {
	return impl.Label{Base: l.Base, Cats: spare(l.Cats, impl.Cat{Id: 7777, Level: -7})}
}

// whole tells a list and the room behind it, so that two moments can be held against each other.
func whole[T any](list []T) []T { return slices.Clone(list[:cap(list)]) }

func unchanged[T any](t *testing.T, what string, ahead []T, list []T) {
	t.Helper()
	if !reflect.DeepEqual(ahead, whole(list)) {
		t.Errorf("%s: an argument was written into: %v, it was %v", what, whole(list), ahead)
	}
}

// scribble writes over an answer and all the room behind it.
func scribble(l impl.Label) {
	for i := range l.Cats[:cap(l.Cats)] {
		l.Cats[:cap(l.Cats)][i] = impl.Cat{Id: -55, Level: -55}
	}
}

func longText(piece string, many int) string { return strings.Repeat(piece, many) }

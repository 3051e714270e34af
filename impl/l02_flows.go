package impl

import (
	"iter"
	"slices"
)

const (
	MaxOwns   = 10
	MaxMade   = 30
	MaxThread = 9
)

type Thread struct {
	Id    int64
	Label Label
	Clear Label
	Owns  []int64
	Made  int64
}

func ownsOk(owns []int64) bool {
	if len(owns) > MaxOwns {
		return false
	}
	last := int64(0)
	for _, cat := range owns {
		if !isCat(cat) || cat <= last {
			return false
		}
		last = cat
	}
	return true
}

// catsAbove leaves out the categories that neither label names: there the bases alone decide.
func catsAbove(a Label, b Label) iter.Seq[int64] {
	return func(yield func(int64) bool) {
		x, y := levelsOf(a), levelsOf(b)
		for _, cat := range namedBy(x, y) {
			if x.of(cat) > y.of(cat) && !yield(cat) {
				return
			}
		}
	}
}

func Flows(a Label, owns []int64, b Label) bool {
	if !LabelOk(a) || !LabelOk(b) || !ownsOk(owns) || a.Base > b.Base {
		return false
	}
	for cat := range catsAbove(a, b) {
		if !slices.Contains(owns, cat) {
			return false
		}
	}
	return true
}

func ThreadOk(t Thread) bool {
	return t.Id >= 1 && t.Id <= MaxThread && LabelOk(t.Label) && LabelOk(t.Clear) &&
		ownsOk(t.Owns) && t.Made >= 0 && t.Made <= MaxMade
}

func Sees(t Thread, l Label) bool { return ThreadOk(t) && Flows(l, t.Owns, t.Label) }

func Changes(t Thread, l Label) bool { return Sees(t, l) && Reaches(t, l) }

func Reaches(t Thread, o Label) bool { return ThreadOk(t) && Flows(t.Label, t.Owns, o) }

package tests

import (
	"testing"

	"loop.example/g00272/impl"
)

// memoryLabels reach every branch: nothing to do, a change in place, one more, one less, and refusals.
func memoryLabels() []impl.Label {
	return []impl.Label{
		{}, label(3), label(1, impl.Cat{Id: 5, Level: 3}), label(1, impl.Cat{Id: 5, Level: 0}, impl.Cat{Id: 9, Level: 2}),
		run(1, 1, impl.MaxCats, 2), run(1, 1, impl.MaxCats-1, 0), run(0, 5, impl.MaxCats, 3),
		label(1, impl.Cat{Id: 7, Level: 2}, impl.Cat{Id: 5, Level: 2}), run(1, 1, impl.MaxCats+1, 2), label(4, impl.Cat{Id: 5, Level: 2}),
	}
}

func TestOneLabelIsNotWrittenInto(t *testing.T) {
	for _, plain := range memoryLabels() {
		l := spareLabel(plain)
		ahead := whole(l.Cats)
		impl.LabelOk(l)
		impl.LevelOf(l, 5)
		impl.LabelText(l)
		for _, cat := range []int64{0, 1, 5, 6, impl.MaxCat} {
			for level := int64(-1); level <= impl.MaxLevel+1; level++ {
				m, _ := impl.With(l, cat, level)
				unchanged(t, "With", ahead, l.Cats)
				scribble(m)
				unchanged(t, "With's answer", ahead, l.Cats)
			}
		}
		unchanged(t, "a question", ahead, l.Cats)
	}
}

func TestTwoLabelsAreNotWrittenInto(t *testing.T) {
	for _, first := range memoryLabels() {
		for _, second := range memoryLabels() {
			a, b := spareLabel(first), spareLabel(second)
			aAhead, bAhead := whole(a.Cats), whole(b.Cats)
			owns := spare([]int64{5, 9}, -7)
			ownsAhead := whole(owns)
			impl.Leq(a, b)
			impl.Flows(a, owns, b)
			j, _ := impl.Join(a, b)
			m, _ := impl.Meet(a, b)
			text := impl.LabelText(m)
			scribble(j)
			unchanged(t, "first of two", aAhead, a.Cats)
			unchanged(t, "second of two", bAhead, b.Cats)
			unchanged(t, "owned", ownsAhead, owns)
			if impl.LabelText(m) != text {
				t.Error("two answers share memory")
			}
			scribble(m)
			unchanged(t, "first of two", aAhead, a.Cats)
			unchanged(t, "second of two", bAhead, b.Cats)
		}
	}
}

func TestOneLabelHandedInTwice(t *testing.T) {
	l := spareLabel(run(1, 1, impl.MaxCats, 2))
	ahead := whole(l.Cats)
	j, jOk := impl.Join(l, l)
	m, mOk := impl.Meet(l, l)
	if !jOk || !mOk || !same(j, l) || !same(m, l) {
		t.Error(j, m)
	}
	scribble(j)
	scribble(m)
	unchanged(t, "both", ahead, l.Cats)
}

func TestAnswersStayWhenArgumentsChange(t *testing.T) {
	l := run(1, 1, 5, 2)
	with, _ := impl.With(l, 3, 2)
	join, _ := impl.Join(l, label(0))
	meet, _ := impl.Meet(l, label(3))
	scribble(l)
	for _, got := range []impl.Label{with, join, meet} {
		if impl.LabelText(got) != "1,1:2,2:2,3:2,4:2,5:2" {
			t.Error(got)
		}
	}
}

func TestReadLabelAnswersNewMemory(t *testing.T) {
	first := mustRead(t, "1,5:3,7:0")
	scribble(first)
	if again := mustRead(t, "1,5:3,7:0"); impl.LabelText(again) != "1,5:3,7:0" {
		t.Error(again)
	}
}

func TestThreadsAreNotWrittenInto(t *testing.T) {
	for _, plain := range memoryLabels() {
		for _, owns := range [][]int64{nil, {5}, {5, 9}, {9, 5}, rising(1, impl.MaxOwns), rising(1, impl.MaxOwns+1)} {
			x := impl.Thread{Id: 1, Label: spareLabel(plain), Clear: spareLabel(plain), Owns: spare(owns, -7)}
			o := spareLabel(label(1, impl.Cat{Id: 5, Level: 3}))
			labelAhead, clearAhead, ownsAhead, oAhead := whole(x.Label.Cats), whole(x.Clear.Cats), whole(x.Owns), whole(o.Cats)
			impl.ThreadOk(x)
			impl.Sees(x, o)
			impl.Changes(x, o)
			impl.Reaches(x, o)
			unchanged(t, "a thread's label", labelAhead, x.Label.Cats)
			unchanged(t, "a thread's clearance", clearAhead, x.Clear.Cats)
			unchanged(t, "what a thread owns", ownsAhead, x.Owns)
			unchanged(t, "a thread's other label", oAhead, o.Cats)
		}
	}
}

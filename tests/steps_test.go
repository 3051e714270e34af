package tests

import (
	"slices"
	"strconv"
	"testing"

	"loop.example/g00272/impl"
)

const none = int64(0)

func secret() impl.Label { return label(1, impl.Cat{Id: 1001, Level: 2}) }

// Threads of house, by what they are there for.
const (
	owner    = 1 // owns 1001
	plain    = 2 // owns nothing
	tainted  = 3 // at the level 2 of 1001, owns nothing
	spent    = 4 // has made all that it may
	rich     = 5 // owns nine categories, 1001 not among them
	richest  = 6 // owns ten
	tightest = 7 // owns 1001, its clearance has the level 0 of it
	absent   = 9
)

// Objects of house, likewise. Those whose names begin with low are seen by all and changed by none.
const (
	openBox, lowBox, secretBox           = 1002, 1003, 1004
	openSegment, lowSegment, secretSeg   = 1005, 1006, 1007
	openQueue, lowQueue, secretQueue     = 1008, 1009, 1010
	fullQueue, emptyQueue, lowFullQueue  = 1011, 1012, 1013
	openGate, lowGate, secretGate        = 1014, 1015, 1016
	narrowGate, twoGate, tenGate         = 1017, 1018, 1019
	inLowBox, inSecretBox, deepBox       = 1020, 1021, 1022
	deepSegment, lowEmptyQueue, nullGate = 1023, 1024, 1025
	madeNext                             = 1026
)

func houseThreads() []impl.Thread {
	return []impl.Thread{
		{Id: owner, Label: label(1), Clear: label(2), Owns: []int64{1001}, Made: 25},
		{Id: plain, Label: label(1), Clear: label(2)},
		{Id: tainted, Label: secret(), Clear: label(2), Made: 7},
		{Id: spent, Label: label(1), Clear: label(2), Owns: []int64{1001}, Made: impl.MaxMade},
		{Id: rich, Label: label(1), Clear: label(2), Owns: rising(11, impl.MaxOwns-1), Made: 29},
		{Id: richest, Label: label(1), Clear: label(2), Owns: rising(11, impl.MaxOwns)},
		{Id: tightest, Label: label(1), Clear: label(2, impl.Cat{Id: 1001, Level: 0}), Owns: []int64{1001}},
	}
}

func house() impl.Kernel {
	low := label(0)
	return impl.Kernel{Threads: houseThreads(), Objects: []impl.Object{
		rootBox(label(1)),
		boxIn(1, openBox, label(1)), boxIn(1, lowBox, low), boxIn(1, secretBox, secret()),
		segmentIn(1, openSegment, label(1), "open"), segmentIn(1, lowSegment, low, "low"), segmentIn(1, secretSeg, secret(), "secret"),
		queueIn(1, openQueue, label(1), "a", "b", "c"), queueIn(1, lowQueue, low, "l"), queueIn(1, secretQueue, secret(), "s"),
		queueIn(1, fullQueue, label(1), texts(impl.MaxItems, "x")...), queueIn(1, emptyQueue, label(1)), queueIn(1, lowFullQueue, low, texts(impl.MaxItems, "x")...),
		gateIn(1, openGate, label(1), label(3), 1001), gateIn(1, lowGate, low, label(1), 1001), gateIn(1, secretGate, secret(), label(3), 7),
		gateIn(1, narrowGate, label(1), label(0), rising(31, impl.MaxOwns)...), gateIn(openBox, twoGate, label(1), label(1), 8, 19), gateIn(1, tenGate, label(1), label(1), rising(11, impl.MaxOwns)...),
		boxIn(lowBox, inLowBox, label(1)), segmentIn(secretBox, inSecretBox, secret(), ""), boxIn(openBox, deepBox, secret()),
		segmentIn(deepBox, deepSegment, label(3), ""), queueIn(1, lowEmptyQueue, low), gateIn(1, nullGate, label(1), label(1)),
	}}
}

func TestHouseIsRight(t *testing.T) {
	if k := house(); !impl.KernelOk(k) || k.Objects[len(k.Objects)-1].Id != madeNext-1 {
		t.Fatal("the tests of steps stand on it")
	}
}

type stepCase struct {
	name string
	step impl.Step
	code int64
	told string
	// then leads the kernel to what it is behind the step; nil: it is as it was.
	then func(*impl.Kernel)
}

func checkSteps(t *testing.T, cases []stepCase) {
	t.Helper()
	for _, c := range cases {
		want := house()
		if c.then != nil {
			c.then(&want)
		}
		k, code, told := impl.Done(house(), c.step)
		if code != c.code || told != c.told {
			t.Errorf("%s: told %d %q, not %d %q", c.name, code, told, c.code, c.told)
		}
		if kernelText(k) != kernelText(want) || !impl.KernelOk(k) {
			t.Errorf("%s: the kernel is then\n%s, not\n%s", c.name, kernelText(k), kernelText(want))
		}
	}
}

func object(k *impl.Kernel, id int64) *impl.Object {
	i := slices.IndexFunc(k.Objects, func(o impl.Object) bool { return o.Id == id })
	return &k.Objects[i]
}

func made(thread int64, objects ...impl.Object) func(*impl.Kernel) {
	return func(k *impl.Kernel) {
		k.Threads[thread-1].Made++
		k.Objects = append(k.Objects, objects...)
		slices.SortFunc(k.Objects, func(a, b impl.Object) int { return int(a.Id - b.Id) })
	}
}

func owns(thread int64, cats ...int64) func(*impl.Kernel) {
	return func(k *impl.Kernel) { k.Threads[thread-1].Owns = cats }
}

func makes(thread int64, cats ...int64) func(*impl.Kernel) {
	return func(k *impl.Kernel) {
		k.Threads[thread-1].Made++
		k.Threads[thread-1].Owns = cats
	}
}

func data(id int64, text string) func(*impl.Kernel) {
	return func(k *impl.Kernel) { object(k, id).Data = text }
}

func items(id int64, list ...string) func(*impl.Kernel) {
	return func(k *impl.Kernel) { object(k, id).Items = list }
}

func gone(ids ...int64) func(*impl.Kernel) {
	return func(k *impl.Kernel) {
		k.Objects = slices.DeleteFunc(k.Objects, func(o impl.Object) bool { return slices.Contains(ids, o.Id) })
	}
}

func raised(thread int64, l impl.Label) func(*impl.Kernel) {
	return func(k *impl.Kernel) { k.Threads[thread-1].Label = l }
}

func simple(thread int64, kind int64, id int64) impl.Step {
	return impl.Step{Thread: thread, Kind: kind, Id: id}
}

func making(thread int64, kind int64, in int64, l impl.Label) impl.Step {
	return impl.Step{Thread: thread, Kind: kind, Id: in, Label: l}
}

func gating(thread int64, in int64, l impl.Label, clear impl.Label, cat int64) impl.Step {
	return impl.Step{Thread: thread, Kind: impl.SyGate, Id: in, Label: l, Clear: clear, Cat: cat}
}

func giving(thread int64, kind int64, id int64, text string) impl.Step {
	return impl.Step{Thread: thread, Kind: kind, Id: id, Data: text}
}

func copying(thread int64, from int64, to int64) impl.Step {
	return impl.Step{Thread: thread, Kind: impl.SyCopy, Id: from, To: to}
}

func raising(thread int64, l impl.Label) impl.Step {
	return impl.Step{Thread: thread, Kind: impl.SyRaise, Label: l}
}

func leaving(thread int64, cat int64) impl.Step {
	return impl.Step{Thread: thread, Kind: impl.SyLeave, Cat: cat}
}

func TestCategoriesThatAreMade(t *testing.T) {
	checkSteps(t, []stepCase{
		{"a second one", simple(owner, impl.SyCat, none), impl.AnDone, "1026", makes(owner, 1001, 1026)},
		{"a first one", simple(plain, impl.SyCat, none), impl.AnDone, "2001", makes(plain, 2001)},
		{"by one that is tainted", simple(tainted, impl.SyCat, none), impl.AnDone, "3008", makes(tainted, 3008)},
		{"the tenth, and the thirtieth made", simple(rich, impl.SyCat, none), impl.AnDone, "5030", makes(rich, 11, 12, 13, 14, 15, 16, 17, 18, 19, 5030)},
		{"an eleventh", simple(richest, impl.SyCat, none), impl.AnFull, "", nil},
		{"a thirty-first made", simple(spent, impl.SyCat, none), impl.AnFull, "", nil},
		{"no such thread", simple(absent, impl.SyCat, none), impl.AnThread, "", nil},
	})
}

// A right kernel may have a thread that owns the number which it makes next.
func TestACategoryThatWasOwnedAlready(t *testing.T) {
	k, _ := impl.KernelNew(1)
	k.Threads[0].Owns = []int64{1001, 1002}
	then, code, told := impl.Done(k, simple(1, impl.SyCat, none))
	if code != impl.AnDone || told != "1001" || !impl.KernelOk(then) || then.Threads[0].Made != 1 || !slices.Equal(then.Threads[0].Owns, []int64{1001, 1002}) {
		t.Error(then, code, told)
	}
	k.Threads[0].Owns = rising(1001, impl.MaxOwns)
	if _, code, told := impl.Done(k, simple(1, impl.SyCat, none)); code != impl.AnFull || told != "" {
		t.Error(code, told)
	}
}

func TestObjectsThatAreMade(t *testing.T) {
	three := label(1, impl.Cat{Id: 1001, Level: 3})
	past := label(1, impl.Cat{Id: 1002, Level: 3})
	for kind, ob := range map[int64]int64{impl.SyMake: impl.ObSegment, impl.SyQueue: impl.ObQueue, impl.SyBox: impl.ObBox, impl.SyGate: impl.ObGate} {
		lies := func(up int64, id int64, l impl.Label) impl.Object {
			return impl.Object{Id: id, Kind: ob, Up: up, Label: l}
		}
		checkSteps(t, []stepCase{
			{"in the root", making(plain, kind, 1, label(1)), impl.AnDone, "2001", made(plain, lies(1, 2001, label(1)))},
			{"ahead of those of other threads", making(owner, kind, openBox, label(1)), impl.AnDone, "1026", made(owner, lies(openBox, 1026, label(1)))},
			{"the thirtieth", making(rich, kind, 1, label(1)), impl.AnDone, "5030", made(rich, lies(1, 5030, label(1)))},
			{"at the clearance", making(plain, kind, 1, label(2)), impl.AnDone, "2001", made(plain, lies(1, 2001, label(2)))},
			{"that its thread does not see", making(plain, kind, 1, secret()), impl.AnDone, "2001", made(plain, lies(1, 2001, secret()))},
			{"past the clearance, by its owner", making(owner, kind, 1, three), impl.AnDone, "1026", made(owner, lies(1, 1026, three))},
			{"past a clearance of 0, by its owner", making(tightest, kind, 1, secret()), impl.AnDone, "7001", made(tightest, lies(1, 7001, secret()))},
			{"in a box of the tainted", making(tainted, kind, secretBox, secret()), impl.AnDone, "3008", made(tainted, lies(secretBox, 3008, secret()))},
			{"in a box of the tainted, by the owner", making(owner, kind, secretBox, label(1)), impl.AnDone, "1026", made(owner, lies(secretBox, 1026, label(1)))},
			{"in no object", making(plain, kind, 9030, label(1)), impl.AnDenied, "", nil},
			{"in a category", making(owner, kind, 1001, label(1)), impl.AnDenied, "", nil},
			{"in a segment", making(plain, kind, openSegment, label(1)), impl.AnDenied, "", nil},
			{"in a queue", making(plain, kind, openQueue, label(1)), impl.AnDenied, "", nil},
			{"in a gate", making(plain, kind, openGate, label(1)), impl.AnDenied, "", nil},
			{"in a box that is seen and not changed", making(plain, kind, lowBox, label(1)), impl.AnDenied, "", nil},
			{"in a box that is reached and not seen", making(plain, kind, secretBox, secret()), impl.AnDenied, "", nil},
			{"in a box below the tainted", making(tainted, kind, 1, secret()), impl.AnDenied, "", nil},
			{"below its thread", making(plain, kind, 1, label(0)), impl.AnDenied, "", nil},
			{"of the tainted, below it", making(tainted, kind, secretBox, label(1)), impl.AnDenied, "", nil},
			{"past the clearance", making(plain, kind, 1, label(3)), impl.AnDenied, "", nil},
			{"past the clearance at one category", making(plain, kind, 1, three), impl.AnDenied, "", nil},
			{"past the clearance at another category", making(owner, kind, 1, past), impl.AnDenied, "", nil},
			{"the thirty-first", making(spent, kind, 1, label(1)), impl.AnFull, "", nil},
			{"no such thread", making(absent, kind, 1, label(1)), impl.AnThread, "", nil},
			{"denied ahead of full: no box", making(spent, kind, openSegment, label(1)), impl.AnDenied, "", nil},
			{"denied ahead of full: not changed", making(spent, kind, lowBox, label(1)), impl.AnDenied, "", nil},
			{"denied ahead of full: below", making(spent, kind, 1, label(0)), impl.AnDenied, "", nil},
			{"denied ahead of full: past the clearance", making(spent, kind, 1, label(3)), impl.AnDenied, "", nil},
		})
	}
}

func TestGatesThatAreMade(t *testing.T) {
	clear := label(3, impl.Cat{Id: 5, Level: 0})
	checkSteps(t, []stepCase{
		{"with a category", gating(owner, 1, label(1), clear, 1001), impl.AnDone, "1026", made(owner, gateIn(1, 1026, label(1), clear, 1001))},
		{"with none", gating(plain, 1, label(1), clear, 0), impl.AnDone, "2001", made(plain, gateIn(1, 2001, label(1), clear))},
		{"with one of ten", gating(richest, 1, label(2), label(0), 20), impl.AnDone, "6001", made(richest, gateIn(1, 6001, label(2), label(0), 20))},
		{"with one that is not owned", gating(plain, 1, label(1), clear, 1001), impl.AnDenied, "", nil},
		{"with another than those owned", gating(owner, 1, label(1), clear, 1002), impl.AnDenied, "", nil},
		{"denied ahead of full: not owned", gating(spent, 1, label(1), clear, 1002), impl.AnDenied, "", nil},
		{"full", gating(spent, 1, label(1), clear, 1001), impl.AnFull, "", nil},
	})
}

func TestSegmentsAreWrittenReadAndCopied(t *testing.T) {
	long := longText("~", impl.MaxData)
	w, r := int64(impl.SyWrite), int64(impl.SyRead)
	checkSteps(t, []stepCase{
		{"write", giving(plain, w, openSegment, long), impl.AnDone, "", data(openSegment, long)},
		{"write nothing", giving(plain, w, openSegment, ""), impl.AnDone, "", data(openSegment, "")},
		{"write by the owner", giving(owner, w, secretSeg, "x y"), impl.AnDone, "", data(secretSeg, "x y")},
		{"write by the tainted", giving(tainted, w, secretSeg, "x"), impl.AnDone, "", data(secretSeg, "x")},
		{"write what is not seen", giving(plain, w, secretSeg, "x"), impl.AnDenied, "", nil},
		{"write what is seen and not changed", giving(plain, w, lowSegment, "x"), impl.AnDenied, "", nil},
		{"write below the tainted", giving(tainted, w, openSegment, "x"), impl.AnDenied, "", nil},
		{"write into no object", giving(plain, w, 9030, "x"), impl.AnDenied, "", nil},
		{"write into a queue", giving(plain, w, openQueue, "x"), impl.AnDenied, "", nil},
		{"write into a box", giving(plain, w, openBox, "x"), impl.AnDenied, "", nil},
		{"write into a gate", giving(plain, w, openGate, "x"), impl.AnDenied, "", nil},
		{"write, no such thread", giving(absent, w, openSegment, "x"), impl.AnThread, "", nil},
		{"read", simple(plain, r, openSegment), impl.AnDone, "open", nil},
		{"read what is not changed", simple(plain, r, lowSegment), impl.AnDone, "low", nil},
		{"read by the tainted", simple(tainted, r, secretSeg), impl.AnDone, "secret", nil},
		{"read below the tainted", simple(tainted, r, openSegment), impl.AnDone, "open", nil},
		{"read by the owner", simple(owner, r, secretSeg), impl.AnDone, "secret", nil},
		{"read what is empty", simple(owner, r, inSecretBox), impl.AnDone, "", nil},
		{"read what is not seen", simple(plain, r, secretSeg), impl.AnDenied, "", nil},
		{"read no object", simple(plain, r, 2001), impl.AnDenied, "", nil},
		{"read the root", simple(plain, r, 1), impl.AnDenied, "", nil},
		{"read a queue", simple(plain, r, openQueue), impl.AnDenied, "", nil},
		{"read a gate", simple(plain, r, openGate), impl.AnDenied, "", nil},
		{"copy", copying(plain, lowSegment, openSegment), impl.AnDone, "", data(openSegment, "low")},
		{"copy down by the owner", copying(owner, secretSeg, openSegment), impl.AnDone, "", data(openSegment, "secret")},
		{"copy up by the tainted", copying(tainted, openSegment, secretSeg), impl.AnDone, "", data(secretSeg, "open")},
		{"copy onto itself", copying(plain, openSegment, openSegment), impl.AnDone, "", nil},
		{"copy onto itself, not changed", copying(plain, lowSegment, lowSegment), impl.AnDenied, "", nil},
		{"copy what is not seen", copying(plain, secretSeg, openSegment), impl.AnDenied, "", nil},
		{"copy down by the tainted", copying(tainted, secretSeg, openSegment), impl.AnDenied, "", nil},
		{"copy to what is not seen", copying(plain, openSegment, secretSeg), impl.AnDenied, "", nil},
		{"copy to what is not changed", copying(plain, openSegment, lowSegment), impl.AnDenied, "", nil},
		{"copy of no object", copying(plain, 9030, openSegment), impl.AnDenied, "", nil},
		{"copy to no object", copying(plain, openSegment, 9030), impl.AnDenied, "", nil},
		{"copy of a queue", copying(plain, openQueue, openSegment), impl.AnDenied, "", nil},
		{"copy to a queue", copying(plain, openSegment, openQueue), impl.AnDenied, "", nil},
		{"copy to a box", copying(plain, openSegment, openBox), impl.AnDenied, "", nil},
	})
}

func TestQueuesArePutIntoAndTakenFrom(t *testing.T) {
	p, k := int64(impl.SyPut), int64(impl.SyTake)
	checkSteps(t, []stepCase{
		{"put", giving(plain, p, openQueue, "d e"), impl.AnDone, "", items(openQueue, "a", "b", "c", "d e")},
		{"put nothing", giving(plain, p, emptyQueue, ""), impl.AnDone, "", items(emptyQueue, "")},
		{"put by the owner", giving(owner, p, secretQueue, "t"), impl.AnDone, "", items(secretQueue, "s", "t")},
		{"put a ninth", giving(plain, p, fullQueue, "y"), impl.AnFull, "", nil},
		{"put what is not seen", giving(plain, p, secretQueue, "y"), impl.AnDenied, "", nil},
		{"put what is not changed", giving(plain, p, lowQueue, "y"), impl.AnDenied, "", nil},
		{"put below the tainted", giving(tainted, p, openQueue, "y"), impl.AnDenied, "", nil},
		{"put into no object", giving(plain, p, 2001, "y"), impl.AnDenied, "", nil},
		{"put into a segment", giving(plain, p, openSegment, "y"), impl.AnDenied, "", nil},
		{"put into a box", giving(plain, p, openBox, "y"), impl.AnDenied, "", nil},
		{"put: denied ahead of full", giving(plain, p, lowFullQueue, "y"), impl.AnDenied, "", nil},
		{"put: denied ahead of full, below the tainted", giving(tainted, p, fullQueue, "y"), impl.AnDenied, "", nil},
		{"take", simple(plain, k, openQueue), impl.AnDone, "a", items(openQueue, "b", "c")},
		{"take the last", simple(owner, k, secretQueue), impl.AnDone, "s", items(secretQueue)},
		{"take one of eight", simple(plain, k, fullQueue), impl.AnDone, "x", items(fullQueue, texts(impl.MaxItems-1, "x")...)},
		{"take from none", simple(plain, k, emptyQueue), impl.AnEmpty, "", nil},
		{"take what is not seen", simple(plain, k, secretQueue), impl.AnDenied, "", nil},
		{"take what is not changed", simple(plain, k, lowQueue), impl.AnDenied, "", nil},
		{"take below the tainted", simple(tainted, k, openQueue), impl.AnDenied, "", nil},
		{"take from no object", simple(plain, k, 2001), impl.AnDenied, "", nil},
		{"take from a segment", simple(plain, k, openSegment), impl.AnDenied, "", nil},
		{"take from a gate", simple(plain, k, openGate), impl.AnDenied, "", nil},
		{"take: denied ahead of empty", simple(plain, k, lowEmptyQueue), impl.AnDenied, "", nil},
		{"take: denied ahead of empty, below the tainted", simple(tainted, k, emptyQueue), impl.AnDenied, "", nil},
		{"take, no such thread", simple(absent, k, emptyQueue), impl.AnThread, "", nil},
	})
}

func TestAQueueGivesWhatWasPutFirst(t *testing.T) {
	k := house()
	put := []string{"1", "2", "3", "", "5", " ", "7", "8"}
	for _, text := range put {
		then, code, told := impl.Done(k, giving(plain, impl.SyPut, emptyQueue, text))
		if code != impl.AnDone || told != "" {
			t.Fatal(text, code, told)
		}
		k = then
	}
	if _, code, _ := impl.Done(k, giving(plain, impl.SyPut, emptyQueue, "9")); code != impl.AnFull {
		t.Error("a ninth item", code)
	}
	for _, text := range put {
		then, code, told := impl.Done(k, simple(plain, impl.SyTake, emptyQueue))
		if code != impl.AnDone || told != text {
			t.Fatal(text, code, told)
		}
		k = then
	}
	if _, code, _ := impl.Done(k, simple(plain, impl.SyTake, emptyQueue)); code != impl.AnEmpty || kernelText(k) != kernelText(house()) {
		t.Error("all were taken", code)
	}
}

func TestGatesAreEnteredAndCategoriesLeft(t *testing.T) {
	e := int64(impl.SyEnter)
	checkSteps(t, []stepCase{
		{"enter", simple(plain, e, openGate), impl.AnDone, "", owns(plain, 1001)},
		{"enter by the tainted", simple(tainted, e, openGate), impl.AnDone, "", owns(tainted, 1001)},
		{"enter once more", simple(owner, e, openGate), impl.AnDone, "", nil},
		{"enter one that is not changed", simple(plain, e, lowGate), impl.AnDone, "", owns(plain, 1001)},
		{"enter one of nothing", simple(plain, e, nullGate), impl.AnDone, "", nil},
		{"enter one of nothing with ten", simple(richest, e, nullGate), impl.AnDone, "", nil},
		{"enter by the owner", simple(owner, e, secretGate), impl.AnDone, "", owns(owner, 7, 1001)},
		{"enter two, of which one is owned", simple(rich, e, twoGate), impl.AnDone, "", owns(rich, 8, 11, 12, 13, 14, 15, 16, 17, 18, 19)},
		{"enter ten with none", simple(plain, e, tenGate), impl.AnDone, "", owns(plain, rising(11, impl.MaxOwns)...)},
		{"enter ten with nine of them", simple(rich, e, tenGate), impl.AnDone, "", owns(rich, rising(11, impl.MaxOwns)...)},
		{"enter ten with the same ten", simple(richest, e, tenGate), impl.AnDone, "", nil},
		{"enter ten with another one", simple(owner, e, tenGate), impl.AnFull, "", nil},
		{"enter one with ten", simple(richest, e, openGate), impl.AnFull, "", nil},
		{"enter what is not seen", simple(plain, e, secretGate), impl.AnDenied, "", nil},
		{"enter past the gate's clearance", simple(tainted, e, lowGate), impl.AnDenied, "", nil},
		{"enter no object", simple(plain, e, 2001), impl.AnDenied, "", nil},
		{"enter a box", simple(plain, e, openBox), impl.AnDenied, "", nil},
		{"enter a segment", simple(plain, e, openSegment), impl.AnDenied, "", nil},
		{"enter: denied ahead of full, clearance", simple(richest, e, narrowGate), impl.AnDenied, "", nil},
		{"enter: denied ahead of full, not seen", simple(richest, e, secretGate), impl.AnDenied, "", nil},
		{"leave", leaving(owner, 1001), impl.AnDone, "", owns(owner)},
		{"leave the first", leaving(richest, 11), impl.AnDone, "", owns(richest, rising(12, impl.MaxOwns-1)...)},
		{"leave the last", leaving(richest, 20), impl.AnDone, "", owns(richest, rising(11, impl.MaxOwns-1)...)},
		{"leave what is not owned", leaving(plain, 1001), impl.AnDenied, "", nil},
		{"leave another", leaving(owner, 1002), impl.AnDenied, "", nil},
		{"leave, no such thread", leaving(absent, 1001), impl.AnThread, "", nil},
	})
}

// A thread's label flows to the gate's clearance by what the thread owns, not by what the gate would give it.
func TestAGateIsEnteredByWhatTheThreadOwns(t *testing.T) {
	k := house()
	k.Threads[owner-1].Label, k.Threads[plain-1].Label = secret(), secret()
	object(&k, openGate).Clear = label(1)
	if _, code, _ := impl.Done(k, simple(owner, impl.SyEnter, openGate)); code != impl.AnDone {
		t.Error("the owner", code)
	}
	if _, code, _ := impl.Done(k, simple(plain, impl.SyEnter, openGate)); code != impl.AnDenied {
		t.Error("one who owns nothing", code)
	}
}

func TestBoxesAreListed(t *testing.T) {
	l := int64(impl.SyList)
	all := "1002 1003 1004 1005 1006 1007 1008 1009 1010 1011 1012 1013 1014 1015 1016 1017 1019 1024 1025"
	checkSteps(t, []stepCase{
		{"the root", simple(plain, l, 1), impl.AnDone, all, nil},
		{"two kids, not theirs", simple(plain, l, openBox), impl.AnDone, "1018 1022", nil},
		{"one kid, in what is not changed", simple(plain, l, lowBox), impl.AnDone, "1020", nil},
		{"no kid", simple(plain, l, inLowBox), impl.AnDone, "", nil},
		{"by the owner", simple(owner, l, secretBox), impl.AnDone, "1021", nil},
		{"kids that are not seen", simple(tainted, l, deepBox), impl.AnDone, "1023", nil},
		{"what is not seen", simple(plain, l, secretBox), impl.AnDenied, "", nil},
		{"no object", simple(plain, l, 9030), impl.AnDenied, "", nil},
		{"a segment", simple(plain, l, openSegment), impl.AnDenied, "", nil},
		{"a gate", simple(plain, l, openGate), impl.AnDenied, "", nil},
		{"no such thread", simple(absent, l, 1), impl.AnThread, "", nil},
	})
}

func TestWhatIsDroppedIsGoneWithAllBelow(t *testing.T) {
	d := int64(impl.SyDrop)
	checkSteps(t, []stepCase{
		{"a segment", simple(plain, d, openSegment), impl.AnDone, "", gone(openSegment)},
		{"a queue", simple(plain, d, openQueue), impl.AnDone, "", gone(openQueue)},
		{"a gate", simple(plain, d, twoGate), impl.AnDone, "", gone(twoGate)},
		{"a box and all below", simple(plain, d, openBox), impl.AnDone, "", gone(openBox, twoGate, deepBox, deepSegment)},
		{"a box that is not seen", simple(plain, d, secretBox), impl.AnDone, "", gone(secretBox, inSecretBox)},
		{"what is not changed, in a box that is", simple(plain, d, lowSegment), impl.AnDone, "", gone(lowSegment)},
		{"in a box of the tainted", simple(tainted, d, inSecretBox), impl.AnDone, "", gone(inSecretBox)},
		{"a deep box, by one that sees its box", simple(plain, d, deepBox), impl.AnDone, "", gone(deepBox, deepSegment)},
		{"the root", simple(plain, d, 1), impl.AnDenied, "", nil},
		{"no object", simple(plain, d, 9030), impl.AnDenied, "", nil},
		{"a category", simple(owner, d, 1001), impl.AnDenied, "", nil},
		{"in a box that is seen and not changed", simple(plain, d, inLowBox), impl.AnDenied, "", nil},
		{"in a box that is not seen", simple(plain, d, inSecretBox), impl.AnDenied, "", nil},
		{"by the tainted, in the root", simple(tainted, d, secretSeg), impl.AnDenied, "", nil},
		{"no such thread", simple(absent, d, openSegment), impl.AnThread, "", nil},
	})
}

func TestThreadsAreRaised(t *testing.T) {
	three := label(1, impl.Cat{Id: 1001, Level: 3})
	checkSteps(t, []stepCase{
		{"to the clearance", raising(plain, label(2)), impl.AnDone, "", raised(plain, label(2))},
		{"at one category", raising(plain, secret()), impl.AnDone, "", raised(plain, secret())},
		{"to where it is", raising(tainted, secret()), impl.AnDone, "", nil},
		{"by the owner, down at what it owns", raising(owner, label(1, impl.Cat{Id: 1001, Level: 0})), impl.AnDone, "", raised(owner, label(1, impl.Cat{Id: 1001, Level: 0}))},
		{"by the owner, past the clearance at what it owns", raising(owner, three), impl.AnDone, "", raised(owner, three)},
		{"by the owner of a clearance of 0", raising(tightest, secret()), impl.AnDone, "", raised(tightest, secret())},
		{"down", raising(plain, label(0)), impl.AnDenied, "", nil},
		{"down at one category", raising(tainted, label(1)), impl.AnDenied, "", nil},
		{"past the clearance", raising(plain, label(3)), impl.AnDenied, "", nil},
		{"past the clearance at one category", raising(plain, three), impl.AnDenied, "", nil},
		{"by the owner, down at another", raising(owner, label(1, impl.Cat{Id: 1002, Level: 0})), impl.AnDenied, "", nil},
		{"no such thread", raising(absent, label(2)), impl.AnThread, "", nil},
	})
}

func TestNumbersGoOnAfterADrop(t *testing.T) {
	k, _ := impl.KernelNew(2)
	for n := int64(1); n <= impl.MaxMade; n++ {
		then, code, told := impl.Done(k, making(2, impl.SyMake, 1, label(1)))
		if code != impl.AnDone || told != strconv.FormatInt(2000+n, 10) {
			t.Fatal(n, code, told)
		}
		k = then
		if n%3 != 0 {
			k, _, _ = impl.Done(k, simple(2, impl.SyDrop, 2000+n))
		}
	}
	if _, code, _ := impl.Done(k, making(2, impl.SyMake, 1, label(1))); code != impl.AnFull {
		t.Error("full, whatever was dropped", code)
	}
	if len(k.Objects) != 11 || !impl.KernelOk(k) {
		t.Error(kernelText(k))
	}
}

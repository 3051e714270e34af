package tests

import (
	"maps"
	"math/rand"
	"testing"

	"loop.example/g00272/impl"
)

// memorySteps are steps of house: each kind, done and refused.
func memorySteps() []impl.Step {
	rich := run(1, 11, 3, 2)
	out := []impl.Step{
		{}, simple(owner, 99, 1), giving(owner, impl.SyWrite, openSegment, "\n"), raising(owner, run(1, 1, impl.MaxCats+1, 2)), raising(absent, rich),
		simple(owner, impl.SyCat, none), simple(richest, impl.SyCat, none), simple(spent, impl.SyCat, none),
		making(spent, impl.SyMake, 1, rich), making(plain, impl.SyBox, lowBox, rich), gating(owner, 1, rich, rich, 1001), gating(plain, 1, rich, rich, 1001), gating(plain, openBox, rich, rich, 0),
		giving(plain, impl.SyWrite, openSegment, "x"), giving(plain, impl.SyWrite, lowSegment, "x"),
		simple(plain, impl.SyRead, openSegment), simple(plain, impl.SyRead, secretSeg),
		copying(owner, secretSeg, openSegment), copying(plain, secretSeg, openSegment),
		giving(plain, impl.SyPut, openQueue, "x"), giving(plain, impl.SyPut, emptyQueue, "x"), giving(plain, impl.SyPut, fullQueue, "x"), giving(plain, impl.SyPut, lowQueue, "x"),
		simple(plain, impl.SyTake, openQueue), simple(owner, impl.SyTake, secretQueue), simple(plain, impl.SyTake, emptyQueue), simple(plain, impl.SyTake, lowQueue),
		simple(plain, impl.SyDrop, openBox), simple(plain, impl.SyDrop, openSegment), simple(plain, impl.SyDrop, 1), simple(plain, impl.SyDrop, inLowBox),
		raising(plain, rich), raising(plain, label(0)), raising(plain, label(2)),
		simple(plain, impl.SyEnter, tenGate), simple(owner, impl.SyEnter, secretGate), simple(richest, impl.SyEnter, openGate), simple(plain, impl.SyEnter, secretGate), simple(owner, impl.SyEnter, nullGate),
		leaving(richest, 15), leaving(owner, 1001), leaving(plain, 1001),
		simple(plain, impl.SyList, 1), simple(plain, impl.SyList, secretBox),
	}
	for _, kind := range []int64{impl.SyMake, impl.SyQueue, impl.SyBox, impl.SyGate} {
		out = append(out, making(owner, kind, 1, rich))
	}
	return out
}

// memoryKernels are house, with labels that have lists, and others, right and wrong.
func memoryKernels() map[string]impl.Kernel {
	k := house()
	for i := range k.Threads {
		k.Threads[i].Clear = label(2, impl.Cat{Id: 5, Level: 3})
	}
	k.Objects[0].Label = label(1, impl.Cat{Id: 1001, Level: 2})
	out := rightKernels()
	maps.Copy(out, wrongKernels())
	out["house"], out["house with lists"] = house(), k
	return out
}

func checkStepMemory(t *testing.T, name string, plainKernel impl.Kernel, plainStep impl.Step) {
	t.Helper()
	k, s := spareAll(plainKernel), spareAll(plainStep)
	kAhead, sAhead := wholeText(k), wholeText(s)
	then, code, told := impl.Done(k, s)
	named := impl.Named(s)
	impl.StepOk(s)
	if wholeText(k) != kAhead || wholeText(s) != sAhead {
		t.Errorf("%s: %v, told %d %q, wrote into an argument", name, plainStep, code, told)
	}
	given, answered := append(rooms(k), rooms(s)...), rooms(then)
	if anyMeet(given, answered) || anyMeet(given, rooms(named)) {
		t.Errorf("%s: %v, told %d, answers with an argument's memory", name, plainStep, code)
	}
	if twoMeet(answered) {
		t.Errorf("%s: %v, told %d: two lists of the answer share memory", name, plainStep, code)
	}
	if _, c, text := impl.Done(plainKernel, plainStep); c != code || text != told {
		t.Errorf("%s: %v told %d %q, without spare room %d %q", name, plainStep, code, told, c, text)
	}
}

func TestStepsWriteIntoNoArgument(t *testing.T) {
	t.Parallel()
	for name, k := range memoryKernels() {
		for _, s := range memorySteps() {
			checkStepMemory(t, name, k, s)
		}
	}
	r := rand.New(rand.NewSource(40))
	for range 400 {
		k := someKernel(r)
		checkStepMemory(t, "some kernel", k, someStep(r, k))
	}
}

func TestKernelsAreNotWrittenInto(t *testing.T) {
	for name, plainKernel := range memoryKernels() {
		k := spareAll(plainKernel)
		ahead, given := wholeText(k), rooms(k)
		impl.KernelOk(k)
		for _, id := range askedIds(k) {
			o, _ := impl.ObjectOf(k, id)
			x, _ := impl.ThreadOf(k, id)
			kids, under := impl.KidsOf(k, id), impl.Under(k, id)
			for _, answered := range [][]room{rooms(o), rooms(x), rooms(kids), rooms(under)} {
				if anyMeet(given, answered) || twoMeet(answered) {
					t.Errorf("%s: an answer for %d shares memory", name, id)
				}
			}
		}
		if wholeText(k) != ahead {
			t.Errorf("%s: a question wrote into the kernel", name)
		}
	}
}

// One list may be handed in at many places: the answer has a list of its own at each.
func TestListsHandedInTwice(t *testing.T) {
	shared := label(1, impl.Cat{Id: 5, Level: 2})
	cats := []int64{5, 6, 1001}
	k := impl.Kernel{
		Threads: []impl.Thread{{Id: 1, Label: shared, Clear: shared, Owns: cats, Made: 3}, {Id: 2, Label: shared, Clear: shared, Owns: cats}},
		Objects: []impl.Object{rootBox(shared), gateIn(1, 1001, shared, shared, cats...), gateIn(1, 1002, shared, shared, cats...), segmentIn(1, 1003, shared, "x")},
	}
	for _, s := range []impl.Step{gating(1, 1, shared, shared, 5), raising(1, shared), simple(1, impl.SyEnter, 1001), simple(2, impl.SyEnter, 1002), leaving(1, 6), simple(2, impl.SyCat, none), simple(1, impl.SyDrop, 1003), {}} {
		ahead := kernelText(k)
		then, _, _ := impl.Done(k, s)
		if kernelText(k) != ahead || twoMeet(rooms(then)) || anyMeet(append(rooms(k), rooms(s)...), rooms(then)) {
			t.Errorf("%v: memory is shared or written into", s)
		}
	}
	if o, ok := impl.ObjectOf(k, 1001); !ok || twoMeet(rooms(o)) {
		t.Error("ObjectOf: two lists share memory")
	}
	if x, ok := impl.ThreadOf(k, 1); !ok || twoMeet(rooms(x)) {
		t.Error("ThreadOf: two lists share memory")
	}
}

func TestNewKernelsAreNewMemory(t *testing.T) {
	first, _ := impl.KernelNew(impl.MaxThread)
	second, _ := impl.KernelNew(impl.MaxThread)
	if anyMeet(rooms(first), rooms(second)) || twoMeet(rooms(first)) {
		t.Error("two new kernels share memory")
	}
	first.Threads[0].Made, first.Objects[0].Kind = 7, 7
	if !impl.KernelOk(second) || kernelText(second) == kernelText(first) {
		t.Error(kernelText(second))
	}
}

// What a refused step hands back may be written over without a trace in the kernel that was handed in.
func TestARefusedKernelIsACopy(t *testing.T) {
	for _, s := range []impl.Step{{}, raising(absent, label(2)), simple(plain, impl.SyRead, secretSeg), simple(plain, impl.SyTake, emptyQueue), giving(plain, impl.SyPut, fullQueue, "x")} {
		k := house()
		then, code, _ := impl.Done(k, s)
		if code == impl.AnDone || kernelText(then) != kernelText(house()) {
			t.Fatal(s, code)
		}
		for i := range then.Threads {
			clear(then.Threads[i].Owns)
			then.Threads[i].Made = 0
		}
		for i := range then.Objects {
			clear(then.Objects[i].Items)
			clear(then.Objects[i].Owns)
			clear(then.Objects[i].Label.Cats)
		}
		clear(then.Objects)
		if kernelText(k) != kernelText(house()) {
			t.Errorf("%v, told %d: the kernel handed in was written over", s, code)
		}
	}
}

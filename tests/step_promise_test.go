package tests

import (
	"math/rand"
	"slices"
	"strconv"
	"strings"
	"testing"

	"loop.example/g00272/impl"
)

func seesIn(x impl.Thread, l impl.Label) bool { return isBelow(l, x.Label, x.Owns) }

func changesIn(x impl.Thread, l impl.Label) bool {
	return seesIn(x, l) && isBelow(x.Label, l, x.Owns)
}

func allOf(owns []int64, more []int64) []int64 {
	all := slices.Concat(owns, more)
	slices.Sort(all)
	return slices.Compact(all)
}

func kindWanted(step int64) int64 {
	switch step {
	case impl.SyWrite, impl.SyRead, impl.SyCopy:
		return impl.ObSegment
	case impl.SyPut, impl.SyTake:
		return impl.ObQueue
	case impl.SyEnter:
		return impl.ObGate
	}
	return impl.ObBox
}

// codeByWords is the document's words for a right kernel, a right step and a thread that there is.
func codeByWords(k impl.Kernel, s impl.Step) int64 {
	x, _ := threadIn(k, s.Thread)
	o, there := objectIn(k, s.Id)
	deny := func(when ...bool) bool { return slices.Contains(when, true) }
	full := x.Made == impl.MaxMade
	switch s.Kind {
	case impl.SyCat:
		if full || len(x.Owns) == impl.MaxOwns {
			return impl.AnFull
		}
		return impl.AnDone
	case impl.SyMake, impl.SyQueue, impl.SyBox, impl.SyGate:
		if deny(!there, o.Kind != impl.ObBox, !changesIn(x, o.Label), !isBelow(x.Label, s.Label, x.Owns), !isBelow(s.Label, x.Clear, x.Owns), s.Cat != 0 && !slices.Contains(x.Owns, s.Cat)) {
			return impl.AnDenied
		}
		if full {
			return impl.AnFull
		}
		return impl.AnDone
	case impl.SyDrop:
		up, _ := objectIn(k, o.Up)
		if deny(!there, s.Id == impl.RootId, !changesIn(x, up.Label)) {
			return impl.AnDenied
		}
		return impl.AnDone
	case impl.SyRaise:
		if deny(!isBelow(x.Label, s.Label, x.Owns), !isBelow(s.Label, x.Clear, x.Owns)) {
			return impl.AnDenied
		}
		return impl.AnDone
	case impl.SyLeave:
		if !slices.Contains(x.Owns, s.Cat) {
			return impl.AnDenied
		}
		return impl.AnDone
	}
	to, toThere := objectIn(k, s.To)
	alters := s.Kind == impl.SyWrite || s.Kind == impl.SyPut || s.Kind == impl.SyTake
	switch {
	case deny(!there, o.Kind != kindWanted(s.Kind), !seesIn(x, o.Label), alters && !changesIn(x, o.Label)):
		return impl.AnDenied
	case s.Kind == impl.SyCopy && deny(!toThere, to.Kind != impl.ObSegment, !changesIn(x, to.Label)):
		return impl.AnDenied
	case s.Kind == impl.SyEnter && !isBelow(x.Label, o.Clear, x.Owns):
		return impl.AnDenied
	case s.Kind == impl.SyEnter && len(allOf(x.Owns, o.Owns)) > impl.MaxOwns, s.Kind == impl.SyPut && len(o.Items) == impl.MaxItems:
		return impl.AnFull
	case s.Kind == impl.SyTake && len(o.Items) == 0:
		return impl.AnEmpty
	}
	return impl.AnDone
}

// thenByWords is what a step that is done leaves and tells; the lists of k are not written into.
func thenByWords(k impl.Kernel, s impl.Step) (impl.Kernel, string) {
	then := impl.Kernel{Threads: slices.Clone(k.Threads), Objects: slices.Clone(k.Objects)}
	x := &then.Threads[slices.IndexFunc(then.Threads, func(x impl.Thread) bool { return x.Id == s.Thread })]
	o := &impl.Object{}
	if _, there := objectIn(then, s.Id); there {
		o = object(&then, s.Id)
	}
	number := 1000*x.Id + x.Made + 1
	text := ""
	switch s.Kind {
	case impl.SyCat:
		x.Made, x.Owns, text = x.Made+1, allOf(x.Owns, []int64{number}), strconv.FormatInt(number, 10)
	case impl.SyMake, impl.SyQueue, impl.SyBox, impl.SyGate:
		kind := map[int64]int64{impl.SyMake: impl.ObSegment, impl.SyQueue: impl.ObQueue, impl.SyBox: impl.ObBox, impl.SyGate: impl.ObGate}[s.Kind]
		fresh := impl.Object{Id: number, Kind: kind, Up: s.Id, Label: s.Label, Clear: s.Clear}
		if s.Cat != 0 {
			fresh.Owns = []int64{s.Cat}
		}
		x.Made, text = x.Made+1, strconv.FormatInt(number, 10)
		then.Objects = append(then.Objects, fresh)
		slices.SortFunc(then.Objects, func(a, b impl.Object) int { return int(a.Id - b.Id) })
	case impl.SyWrite:
		o.Data = s.Data
	case impl.SyRead:
		text = o.Data
	case impl.SyCopy:
		object(&then, s.To).Data = o.Data
	case impl.SyPut:
		o.Items = slices.Concat(o.Items, []string{s.Data})
	case impl.SyTake:
		text, o.Items = o.Items[0], o.Items[1:]
	case impl.SyDrop:
		gone(underIn(k, s.Id)...)(&then)
	case impl.SyRaise:
		x.Label = s.Label
	case impl.SyEnter:
		x.Owns = allOf(x.Owns, o.Owns)
	case impl.SyLeave:
		x.Owns = slices.DeleteFunc(slices.Clone(x.Owns), func(cat int64) bool { return cat == s.Cat })
	case impl.SyList:
		var ids []string
		for _, kid := range kidsIn(k, s.Id) {
			ids = append(ids, strconv.FormatInt(kid, 10))
		}
		text = strings.Join(ids, " ")
	}
	return then, text
}

func someStep(r *rand.Rand, k impl.Kernel) impl.Step {
	x := pick(r, k.Threads)
	s := impl.Step{Thread: x.Id, Kind: 1 + r.Int63n(impl.SyList)}
	id := func(kind int64) int64 {
		var fit []int64
		for _, o := range k.Objects {
			if o.Kind == kind {
				fit = append(fit, o.Id)
			}
		}
		if len(fit) == 0 || r.Intn(8) == 0 {
			return pick(r, []int64{impl.RootId, 1000*x.Id + 1, 9030, pick(r, k.Objects).Id})
		}
		return pick(r, fit)
	}
	if has(s.Kind, "Id") {
		s.Id = id(kindWanted(s.Kind))
	}
	if s.Kind == impl.SyDrop {
		s.Id = pick(r, k.Objects).Id
	}
	if has(s.Kind, "To") {
		s.To = id(impl.ObSegment)
	}
	if has(s.Kind, "Data") {
		s.Data = pick(r, []string{"", "new", longText(" ~", impl.MaxData/2)})
	}
	if has(s.Kind, "Label") {
		s.Label = pick(r, append(someKernelLabels(), x.Label, x.Clear, x.Label))
	}
	if has(s.Kind, "Clear") {
		s.Clear = pick(r, someKernelLabels())
	}
	if has(s.Kind, "Cat") {
		s.Cat = pick(r, append([]int64{1, 1001, 2001}, x.Owns...))
		if s.Kind == impl.SyGate && r.Intn(3) == 0 {
			s.Cat = 0
		}
	}
	return s
}

// Answers that each kind of step has, but those of a wrong kernel, step or thread.
func codesOf(kind int64) []int64 {
	switch kind {
	case impl.SyCat:
		return []int64{impl.AnDone, impl.AnFull}
	case impl.SyMake, impl.SyQueue, impl.SyBox, impl.SyGate, impl.SyPut, impl.SyEnter:
		return []int64{impl.AnDone, impl.AnDenied, impl.AnFull}
	case impl.SyTake:
		return []int64{impl.AnDone, impl.AnDenied, impl.AnEmpty}
	}
	return []int64{impl.AnDone, impl.AnDenied}
}

// eachSomeStep hands on steps of many kernels, some of them made by steps, and their answers.
func eachSomeStep(t *testing.T, seed int64, check func(impl.Kernel, impl.Step, impl.Kernel, int64, string)) {
	t.Helper()
	r := rand.New(rand.NewSource(seed))
	met := map[[2]int64]int{}
	for i := range 1500 {
		k := someKernel(r)
		if i%5 == 0 {
			k, _ = impl.KernelNew(1 + r.Int63n(3))
		}
		for range 10 {
			s := someStep(r, k)
			then, code, told := impl.Done(k, s)
			check(k, s, then, code, told)
			if t.Failed() {
				t.FailNow()
			}
			met[[2]int64{s.Kind, code}]++
			k = then
		}
	}
	for kind := int64(impl.SyCat); kind <= impl.SyList; kind++ {
		for _, code := range codesOf(kind) {
			if met[[2]int64{kind, code}] < 5 {
				t.Errorf("kind %d told %d too seldom: the test says too little", kind, code)
			}
		}
	}
}

func TestStepsByTheDocumentsWords(t *testing.T) {
	t.Parallel()
	eachSomeStep(t, 30, func(k impl.Kernel, s impl.Step, then impl.Kernel, code int64, told string) {
		want, text := k, ""
		wanted := codeByWords(k, s)
		if wanted == impl.AnDone {
			want, text = thenByWords(k, s)
		}
		if code != wanted || told != text || kernelText(then) != kernelText(want) {
			t.Errorf("%v told %d %q, not %d %q, of\n%s, and left\n%s", s, code, told, wanted, text, kernelText(k), kernelText(then))
		}
	})
}

func TestAStepLeavesARightKernel(t *testing.T) {
	t.Parallel()
	eachSomeStep(t, 31, func(k impl.Kernel, s impl.Step, then impl.Kernel, code int64, told string) {
		if !impl.KernelOk(then) {
			t.Errorf("%v told %d and left\n%s", s, code, kernelText(then))
		}
		if code != impl.AnDone && (kernelText(then) != kernelText(k) || told != "") {
			t.Errorf("%v was refused with %d %q and left\n%s, of\n%s", s, code, told, kernelText(then), kernelText(k))
		}
		if again, c, text := impl.Done(k, s); c != code || text != told || kernelText(again) != kernelText(then) {
			t.Errorf("%v told %d %q, and %d %q another time", s, code, told, c, text)
		}
	})
}

func TestWhatIsMadeLiesWhereItWasAskedFor(t *testing.T) {
	eachSomeStep(t, 32, func(k impl.Kernel, s impl.Step, then impl.Kernel, code int64, told string) {
		if code != impl.AnDone || s.Kind < impl.SyMake || s.Kind > impl.SyGate {
			return
		}
		id, err := strconv.ParseInt(told, 10, 64)
		o, ok := impl.ObjectOf(then, id)
		if _, was := objectIn(k, id); err != nil || !ok || was || id/1000 != s.Thread {
			t.Errorf("%v told %q", s, told)
		}
		if o.Up != s.Id || !same(o.Label, s.Label) || !same(o.Clear, s.Clear) || !slices.Contains(impl.KidsOf(then, s.Id), id) {
			t.Errorf("%v made %v", s, o)
		}
	})
}

// hidden is the kernel with other data in all that the thread does not see.
func hidden(k impl.Kernel, x impl.Thread) impl.Kernel {
	out := impl.Kernel{Threads: k.Threads, Objects: slices.Clone(k.Objects)}
	for i, o := range out.Objects {
		if seesIn(x, o.Label) {
			continue
		}
		if o.Kind == impl.ObSegment {
			out.Objects[i].Data = o.Data[:len(o.Data)/2] + "!"
		}
		if o.Kind == impl.ObQueue {
			out.Objects[i].Items = texts(impl.MaxItems-len(o.Items), "?")
		}
	}
	return out
}

func TestAThreadIsToldOnlyWhatItSees(t *testing.T) {
	eachSomeStep(t, 33, func(k impl.Kernel, s impl.Step, then impl.Kernel, code int64, told string) {
		x, _ := threadIn(k, s.Thread)
		if o, _ := objectIn(k, s.Id); told != "" && s.Kind > impl.SyGate && !seesIn(x, o.Label) {
			t.Errorf("%v told %q of what is not seen", s, told)
		}
		if _, c, text := impl.Done(hidden(k, x), s); c != code || text != told {
			t.Errorf("%v told %d %q, and %d %q when other data stand in what is not seen, of\n%s", s, code, told, c, text, kernelText(k))
		}
	})
}

// frame is an object without what a step may write into it.
func frame(o impl.Object) string {
	o.Data, o.Items = "", nil
	return objectText(o)
}

func TestAThreadChangesOnlyWhatItMay(t *testing.T) {
	t.Parallel()
	eachSomeStep(t, 34, func(k impl.Kernel, s impl.Step, then impl.Kernel, code int64, told string) {
		x, _ := threadIn(k, s.Thread)
		for _, o := range k.Objects {
			now, there := objectIn(then, o.Id)
			if there && (frame(o) != frame(now) || objectText(o) != objectText(now) && !changesIn(x, o.Label)) {
				t.Errorf("%v by %v changed %v to %v", s, x, o, now)
			}
			if box, _ := objectIn(k, o.Up); !there && (s.Kind != impl.SyDrop || o.Id == s.Id && !changesIn(x, box.Label)) {
				t.Errorf("%v by %v dropped %v out of %v", s, x, o, box)
			}
		}
		for _, o := range then.Objects {
			if _, there := objectIn(k, o.Id); there {
				continue
			}
			if box, _ := objectIn(k, o.Up); !changesIn(x, box.Label) || !isBelow(x.Label, o.Label, x.Owns) {
				t.Errorf("%v by %v made %v in %v", s, x, o, box)
			}
		}
		for i, other := range k.Threads {
			if other.Id != s.Thread && threadText(other) != threadText(then.Threads[i]) || len(k.Threads) != len(then.Threads) {
				t.Errorf("%v changed the thread %v", s, other)
			}
		}
	})
}

func TestACategoryIsOwnedByMakingItOrByAGate(t *testing.T) {
	eachSomeStep(t, 35, func(k impl.Kernel, s impl.Step, then impl.Kernel, code int64, told string) {
		ahead, _ := threadIn(k, s.Thread)
		behind, _ := threadIn(then, s.Thread)
		for _, cat := range behind.Owns {
			if slices.Contains(ahead.Owns, cat) {
				continue
			}
			passed, _ := objectIn(k, s.Id)
			byMaking := s.Kind == impl.SyCat && told == strconv.FormatInt(cat, 10)
			byGate := s.Kind == impl.SyEnter && slices.Contains(passed.Owns, cat) && seesIn(ahead, passed.Label)
			if !byMaking && !byGate {
				t.Errorf("%v by %v: it owns %d then", s, ahead, cat)
			}
		}
		for _, o := range then.Objects {
			if _, there := objectIn(k, o.Id); !there && !isPiece(o.Owns, ahead.Owns) {
				t.Errorf("%v by %v: the gate %v hands on what its maker does not own", s, ahead, o)
			}
		}
	})
}

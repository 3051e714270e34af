package tests

import (
	"math/rand"
	"slices"
	"testing"

	"loop.example/g00272/impl"
)

// handsIn is the document's words for one step.
func handsIn(k impl.Kernel, s impl.Step, then impl.Kernel, o impl.Label) bool {
	if !tidyIn(k, o) {
		return true
	}
	if !feltIn(k, s.Thread, o) {
		return feltIn(then, s.Thread, o)
	}
	x, _ := threadIn(k, s.Thread)
	return len(x.Owns) > 0 && !isPiece(impl.Named(s), seenIn(k, o))
}

// watchedIn tells what Handed tells, and the places of the steps whose threads are felt.
func watchedIn(k impl.Kernel, list []impl.Step, o impl.Label) (int64, []int64) {
	handed, felt := int64(-1), []int64(nil)
	for i, s := range list {
		then, _, _ := impl.Done(k, s)
		if handed < 0 && handsIn(k, s, then, o) {
			handed = int64(i)
		}
		if feltIn(k, s.Thread, o) {
			felt = append(felt, int64(i))
		}
		k = then
	}
	return handed, felt
}

// someMixedStep is a step that is not right, or of a thread that there is not, now and then.
func someMixedStep(r *rand.Rand, k impl.Kernel) impl.Step {
	s := someStep(r, k)
	switch r.Intn(16) {
	case 0:
		s.Kind = pick(r, []int64{0, impl.SyList + 1, s.Kind + 1})
	case 1:
		s.Thread = 5 + r.Int63n(6)
	case 2:
		s.Data += "\n"
	}
	return s
}

func someRun(r *rand.Rand, k impl.Kernel, many int) []impl.Step {
	var list []impl.Step
	for range many {
		s := someMixedStep(r, k)
		list = append(list, s)
		k, _, _ = impl.Done(k, s)
	}
	return list
}

// quietRun has no step that hands on, as long as the kernel is tidy at first.
func quietRun(r *rand.Rand, k impl.Kernel, o impl.Label, many int) []impl.Step {
	var list []impl.Step
	for range 4 * many {
		s := someMixedStep(r, k)
		then, _, _ := impl.Done(k, s)
		if len(list) < many && !handsIn(k, s, then, o) {
			list = append(list, s)
			k = then
		}
	}
	return list
}

func someLength(r *rand.Rand) int { return pick(r, []int{0, 1, 2, 5, 12, 30, impl.MaxSteps}) }

func checkRunByWords(t *testing.T, k impl.Kernel, list []impl.Step, o impl.Label) int64 {
	t.Helper()
	want, wanted := ranIn(k, list)
	if then, answers := impl.Ran(k, list); kernelText(then) != kernelText(want) || !slices.Equal(answers, wanted) {
		t.Fatalf("%v of\n%sanswers\n%snot\n%s", list, kernelText(k), answersText(answers), answersText(wanted))
	}
	handed, felt := watchedIn(k, list, o)
	if got := impl.Handed(k, list, o); got != handed {
		t.Fatalf("%v of\n%s: %d hands on for %v, not %d", list, kernelText(k), got, o, handed)
	}
	if handed >= 0 {
		felt = nil
	}
	if got, ok := impl.Purged(k, list, o); ok != (handed == -1) || !slices.Equal(got, felt) {
		t.Fatalf("%v of\n%s: %v, %v for %v, not %v", list, kernelText(k), got, ok, o, felt)
	}
	return handed
}

func TestRunsByTheDocumentsWords(t *testing.T) {
	t.Parallel()
	r := rand.New(rand.NewSource(70))
	quiet, first, later := 0, 0, 0
	for i := range 900 {
		o := pick(r, observers())
		k := someKernel(r)
		if i%3 > 0 {
			k = tidied(k, o)
		}
		list := someRun(r, k, someLength(r))
		if i%3 == 2 {
			list = append(quietRun(r, k, o, 20), someRun(r, k, 3)...)
		}
		switch handed := checkRunByWords(t, k, list, o); {
		case handed < 0:
			quiet++
		case handed == 0:
			first++
		default:
			later++
		}
	}
	if quiet < 100 || first < 100 || later < 100 {
		t.Errorf("%d runs in which none hands on, %d in which the first does, %d a later one: the test says too little", quiet, first, later)
	}
}

func TestStepsInTwoPiecesAreTheSameSteps(t *testing.T) {
	r := rand.New(rand.NewSource(71))
	for range 60 {
		o := pick(r, observers())
		k := someTidyKernel(r, o)
		list := append(quietRun(r, k, o, 8), someRun(r, k, 4)...)
		whole, answers := impl.Ran(k, list)
		handed, felt := watchedIn(k, list, o)
		for cut := range len(list) + 1 {
			half, first := impl.Ran(k, list[:cut])
			rest, second := impl.Ran(half, list[cut:])
			if kernelText(rest) != kernelText(whole) || !slices.Equal(slices.Concat(first, second), answers) {
				t.Fatalf("%v, cut at %d, of\n%s", list, cut, kernelText(k))
			}
			one, two := impl.Handed(k, list[:cut], o), impl.Handed(half, list[cut:], o)
			if one < 0 && two >= 0 {
				one = int64(cut) + two
			}
			if one != handed {
				t.Fatalf("%v, cut at %d: %d hands on, not %d", list, cut, one, handed)
			}
			if places, ok := impl.Purged(half, list[cut:], o); ok && !slices.Equal(moved(places, cut), behind(felt, cut)) {
				t.Fatalf("%v, cut at %d: %v of %v", list, cut, places, felt)
			}
		}
	}
}

func moved(places []int64, by int) []int64 {
	var out []int64
	for _, p := range places {
		out = append(out, p+int64(by))
	}
	return out
}

func behind(places []int64, cut int) []int64 {
	return slices.DeleteFunc(slices.Clone(places), func(p int64) bool { return p < int64(cut) })
}

func pickedOf[T any](list []T, places []int64) []T {
	var out []T
	for _, p := range places {
		out = append(out, list[p])
	}
	return out
}

// checkLeftOut asks of one run what promise 6 says, and tells how many steps that changed the kernel were left out.
func checkLeftOut(t *testing.T, k impl.Kernel, list []impl.Step, o impl.Label) int {
	t.Helper()
	places, ok := impl.Purged(k, list, o)
	if !ok || impl.Handed(k, list, o) != -1 {
		t.Fatalf("%v of\n%s hands on for %v", list, kernelText(k), o)
	}
	all, answers := impl.Ran(k, list)
	few, left := impl.Ran(k, pickedOf(list, places))
	if v, w := impl.ViewOf(all, o), impl.ViewOf(few, o); v != w || v == "" {
		t.Fatalf("%v of\n%s: %v sees\n%s, and when %v are left\n%s", list, kernelText(k), o, v, places, w)
	}
	if !impl.Tidy(all, o) || !impl.Tidy(few, o) {
		t.Fatalf("%v of\n%s: not tidy for %v at the end, though none hands on", list, kernelText(k), o)
	}
	if !slices.Equal(pickedOf(answers, places), left) {
		t.Fatalf("%v of\n%s: answered\n%s, and when %v are left\n%s", list, kernelText(k), answersText(answers), places, answersText(left))
	}
	gone := 0
	for i, s := range list {
		then, _, _ := impl.Done(k, s)
		if !slices.Contains(places, int64(i)) && kernelText(then) != kernelText(k) {
			gone++
		}
		k = then
	}
	return gone
}

func TestStepsThatAreNotFeltMayBeLeftOut(t *testing.T) {
	t.Parallel()
	r := rand.New(rand.NewSource(72))
	runs, gone := 0, 0
	for range 900 {
		o := pick(r, observers())
		k := someTidyKernel(r, o)
		n := checkLeftOut(t, k, quietRun(r, k, o, pick(r, []int{3, 10, 25, impl.MaxSteps})), o)
		gone += n
		if n > 0 {
			runs++
		}
	}
	if runs < 300 || gone < 1000 {
		t.Errorf("%d steps that changed a kernel left out, of %d runs: the test says too little", gone, runs)
	}
}

// From a new kernel on, threads make what the others then lean on.
func TestRunsFromANewKernelOn(t *testing.T) {
	t.Parallel()
	r := rand.New(rand.NewSource(73))
	runs := 0
	for range 400 {
		k, _ := impl.KernelNew(1 + r.Int63n(4))
		o := pick(r, []impl.Label{label(1), label(1), label(2), secret(), label(0), label(1, impl.Cat{Id: 2001, Level: 0})})
		if checkLeftOut(t, k, quietRun(r, k, o, 40), o) > 0 {
			runs++
		}
	}
	if runs < 50 {
		t.Errorf("something is left out of %d runs: the test says too little", runs)
	}
}

// What is left out shows where a step hands on: the promise says nothing of such a run.
func TestWhatIsHandedOnShows(t *testing.T) {
	k, o := court(), label(1)
	list := steps(giving(highOne, impl.SyWrite, hiddenSegment, "news"), copying(openOwner, hiddenSegment, courtSegment))
	all, _ := impl.Ran(k, list)
	few, _ := impl.Ran(k, list[1:])
	if impl.Handed(k, list, o) != 1 || impl.ViewOf(all, o) == impl.ViewOf(few, o) {
		t.Error("an owner tells what is not seen")
	}
	list = steps(giving(highOne, impl.SyWrite, hiddenSegment, "news"), copying(openOne, hiddenSegment, courtSegment))
	all, _ = impl.Ran(k, list)
	few, _ = impl.Ran(k, list[1:])
	if impl.Handed(k, list, o) != -1 || impl.ViewOf(all, o) != impl.ViewOf(few, o) {
		t.Error("who owns nothing can not tell it")
	}
}

// stepOfItself is a step by which a thread changes what it owns or its label.
func stepOfItself(r *rand.Rand, k impl.Kernel) impl.Step {
	x := pick(r, k.Threads)
	gates := []int64{impl.RootId}
	for _, o := range k.Objects {
		if o.Kind == impl.ObGate {
			gates = append(gates, o.Id)
		}
	}
	switch r.Intn(4) {
	case 0:
		return simple(x.Id, impl.SyCat, none)
	case 1:
		return raising(x.Id, pick(r, someKernelLabels()))
	case 2:
		return leaving(x.Id, pick(r, append([]int64{1001}, x.Owns...)))
	}
	return simple(x.Id, impl.SyEnter, gates[len(gates)-1])
}

// Owning less or standing higher lets no thread be felt, owning more or standing lower keeps none from it.
func TestWhoComesToBeFelt(t *testing.T) {
	t.Parallel()
	r := rand.New(rand.NewSource(74))
	comes, goes := map[int64]int{}, map[int64]int{}
	for range 20000 {
		o := pick(r, observers())
		k := someKernel(r)
		s := someStep(r, k)
		if r.Intn(4) > 0 {
			s = stepOfItself(r, k)
		}
		then, _, _ := impl.Done(k, s)
		ahead, behind := feltIn(k, s.Thread, o), feltIn(then, s.Thread, o)
		want := int64(-1)
		if !tidyIn(k, o) || !ahead && behind {
			want = 0
		}
		if got := impl.Handed(k, steps(s), o); got != want && !ahead {
			t.Fatalf("%v of\n%s hands on for %v: %d, not %d", s, kernelText(k), o, got, want)
		}
		if !ahead && behind {
			comes[s.Kind]++
		}
		if ahead && !behind {
			goes[s.Kind]++
		}
	}
	if len(comes) != 2 || comes[impl.SyEnter] < 20 || comes[impl.SyCat] < 20 {
		t.Errorf("threads come to be felt by gates and by making a category alone, not by %v", comes)
	}
	if len(goes) != 2 || goes[impl.SyRaise] < 20 || goes[impl.SyLeave] < 20 {
		t.Errorf("threads are not felt any more by raising and by leaving alone, not by %v", goes)
	}
}

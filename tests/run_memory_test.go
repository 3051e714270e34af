package tests

import (
	"fmt"
	"math/rand"
	"runtime"
	"slices"
	"sync"
	"testing"
	"time"

	"loop.example/g00272/impl"
)

// runText tells all that chapters 5 and 6 answer of one run.
func runText(k impl.Kernel, list []impl.Step, o impl.Label) string {
	then, answers := impl.Ran(k, list)
	places, ok := impl.Purged(k, list, o)
	return fmt.Sprint(kernelText(then), answersText(answers), impl.Handed(k, list, o), len(places), places, ok,
		len(impl.Seen(k, o)), impl.Seen(k, o), impl.Tidy(k, o), impl.ViewOf(k, o))
}

// memoryRuns are runs of each kind of step, done and refused, none at all, and too many.
func memoryRuns() [][]impl.Step {
	all := memorySteps()
	return [][]impl.Step{nil, {}, all[:1], all, mixed(), slices.Concat(all, all)}
}

func checkRunMemory(t *testing.T, name string, plainKernel impl.Kernel, plainList []impl.Step, plainLabel impl.Label) {
	t.Helper()
	k, list, o := spareAll(plainKernel), spareAll(plainList), spareAll(plainLabel)
	ahead := wholeText(k) + wholeText(list) + wholeText(o)
	then, answers := impl.Ran(k, list)
	places, _ := impl.Purged(k, list, o)
	seen := impl.Seen(k, o)
	impl.Handed(k, list, o)
	impl.Tidy(k, o)
	impl.ViewOf(k, o)
	if wholeText(k)+wholeText(list)+wholeText(o) != ahead {
		t.Errorf("%s, %d steps, %v: an argument was written into", name, len(list), o)
	}
	given := slices.Concat(rooms(k), rooms(list), rooms(o))
	answered := slices.Concat(rooms(then), rooms(answers), rooms(places), rooms(seen))
	if anyMeet(given, answered) || twoMeet(answered) {
		t.Errorf("%s, %d steps, %v: an answer shares memory", name, len(list), o)
	}
	if runText(k, list, o) != runText(plainKernel, plainList, plainLabel) {
		t.Errorf("%s, %d steps, %v: spare room changes an answer", name, len(list), o)
	}
}

func TestRunsWriteIntoNoArgument(t *testing.T) {
	t.Parallel()
	high := label(1, impl.Cat{Id: 1001, Level: 2})
	for name, k := range memoryKernels() {
		for _, list := range memoryRuns() {
			checkRunMemory(t, name, k, list, high)
		}
		checkRunMemory(t, name, k, mixed(), run(1, 1, impl.MaxCats+1, 2))
	}
	for _, list := range memoryRuns() {
		checkRunMemory(t, "court", court(), list, label(1))
		checkRunMemory(t, "gallery", gallery(), list, high)
	}
	r := rand.New(rand.NewSource(80))
	for range 60 {
		o := pick(r, observers())
		k := someTidyKernel(r, o)
		checkRunMemory(t, "some kernel", k, quietRun(r, k, o, 12), o)
	}
}

// What a run hands back may be written over without a trace in what was handed in, also where there are no steps.
func TestAnAnsweredKernelIsACopy(t *testing.T) {
	for _, list := range memoryRuns()[:5] {
		k := gallery()
		then, _ := impl.Ran(k, list)
		for i := range then.Threads {
			clear(then.Threads[i].Owns)
		}
		for i := range then.Objects {
			clear(then.Objects[i].Items)
			clear(then.Objects[i].Owns)
			clear(then.Objects[i].Label.Cats)
		}
		clear(then.Objects)
		clear(then.Threads)
		if kernelText(k) != kernelText(gallery()) {
			t.Errorf("%d steps: the kernel handed in was written over", len(list))
		}
	}
}

// One kernel, one list of steps and one label are asked from many sides at once.
func TestManyCallsBesideEachOther(t *testing.T) {
	type call struct {
		k    impl.Kernel
		list []impl.Step
		o    impl.Label
		want string
	}
	r := rand.New(rand.NewSource(81))
	var calls []call
	for i := range 24 {
		c := call{k: court(), list: mixed(), o: pick(r, observers())}
		if i%3 > 0 {
			c.k = someTidyKernel(r, c.o)
			c.list = quietRun(r, c.k, c.o, 30)
		}
		c.k, c.list, c.o = spareAll(c.k), spareAll(c.list), spareAll(c.o)
		c.want = runText(c.k, c.list, c.o)
		calls = append(calls, c)
	}
	var all sync.WaitGroup
	for side := range 16 {
		all.Go(func() {
			for i := range calls {
				c := calls[(i+side/2)%len(calls)]
				if got := runText(c.k, c.list, c.o); got != c.want {
					t.Errorf("beside others: %s, alone: %s", got, c.want)
				}
			}
		})
	}
	all.Wait()
}

// A goroutine is through a little behind its last word, so the count is asked more than once.
func TestRunsLeaveNoGoroutineBehind(t *testing.T) {
	ahead := runtime.NumGoroutine()
	full := slices.Repeat(mixed(), impl.MaxSteps/len(mixed()))
	for range 50 {
		for _, list := range [][]impl.Step{nil, mixed(), full, append(full, impl.Step{})} {
			for _, k := range []impl.Kernel{court(), untidy(), {}} {
				for _, o := range []impl.Label{label(1), label(0), secret(), label(-1)} {
					impl.Handed(k, list, o)
					impl.Purged(k, list, o)
					impl.Ran(k, list)
				}
			}
		}
	}
	for range 200 {
		if runtime.NumGoroutine() <= ahead {
			return
		}
		time.Sleep(10 * time.Millisecond)
	}
	t.Errorf("%d goroutines are left, there were %d", runtime.NumGoroutine(), ahead)
}

package tests

import (
	"fmt"
	"math/rand"
	"slices"
	"sync"
	"testing"
	"unsafe"

	"loop.example/g00272/impl"
)

// over is a text that lies over bytes, so that these can be written over behind a call.
func over(text string) (string, []byte) {
	room := []byte(text)
	if len(room) == 0 {
		return "", room
	}
	return unsafe.String(&room[0], len(room)), room
}

func textsOf(k impl.Kernel) []string {
	var out []string
	for _, o := range k.Objects {
		out = append(out, o.Data)
		out = append(out, o.Items...)
	}
	return out
}

func TestTextsWriteIntoNoStep(t *testing.T) {
	r := rand.New(rand.NewSource(160))
	steps := slices.Concat(memorySteps(), []impl.Step{gating(1, 1, run(1, 1, impl.MaxCats, 2), run(0, 9988, impl.MaxCats, 3), 5), raising(1, run(1, 1, impl.MaxCats+1, 2))})
	for range 300 {
		steps = append(steps, anyStep(r))
	}
	for _, plain := range steps {
		s := spareAll(plain)
		ahead := wholeText(s)
		text := impl.StepText(s)
		if wholeText(s) != ahead {
			t.Errorf("%v: the step was written into", plain)
		}
		if text != impl.StepText(plain) || text != impl.StepText(s) {
			t.Errorf("%v: %q, without spare room %q", plain, text, impl.StepText(plain))
		}
		if s.Data != "" && text != "" && meet(textRoom(s.Data), textRoom(text)) {
			t.Errorf("%v: the text lies in Data", plain)
		}
	}
}

func TestTextsWriteIntoNoKernel(t *testing.T) {
	kernels := memoryKernels()
	kernels["gallery"], kernels["blanks"], kernels["greatest"] = gallery(), blankKernel(), greatest()
	r := rand.New(rand.NewSource(161))
	for i := range 100 {
		kernels[fmt.Sprint("any ", i)] = anyKernel(r)
	}
	for name, plain := range kernels {
		k := spareAll(plain)
		ahead := wholeText(k)
		text := impl.KernelText(k)
		if wholeText(k) != ahead {
			t.Errorf("%s: the kernel was written into", name)
		}
		if text != impl.KernelText(plain) || text != impl.KernelText(k) {
			t.Errorf("%s: %q, without spare room %q", name, text, impl.KernelText(plain))
		}
	}
}

func TestWhatIsReadIsNewMemory(t *testing.T) {
	r := rand.New(rand.NewSource(162))
	kernels := []impl.Kernel{smallKernel(), gallery(), blankKernel(), greatest()}
	for range 60 {
		kernels = append(kernels, anyKernel(r))
	}
	for _, k := range kernels {
		text, room := over(impl.KernelText(k))
		want := string(room)
		first, ok := impl.ReadKernel(text)
		second, _ := impl.ReadKernel(text)
		if !ok || text != want {
			t.Fatalf("%q is written into, or not read", text)
		}
		if anyMeet(rooms(first), rooms(second)) || twoMeet(rooms(first)) {
			t.Errorf("%q: two lists share memory", want)
		}
		for _, data := range textsOf(first) {
			if data != "" && meet(textRoom(text), textRoom(data)) {
				t.Errorf("%q lies in the text it was read of", data)
			}
		}
		clear(room)
		if kernelText(first) != kernelText(k) || impl.KernelText(first) != want {
			t.Errorf("%q changed with the text", want)
		}
		for i := range first.Objects {
			clear(first.Objects[i].Items)
			clear(first.Objects[i].Owns)
			clear(first.Objects[i].Label.Cats)
			clear(first.Objects[i].Clear.Cats)
		}
		clear(first.Objects)
		clear(first.Threads)
		if kernelText(second) != kernelText(k) {
			t.Errorf("%q: one answer was written over with the other", want)
		}
	}
}

func TestStepsThatAreReadAreNewMemory(t *testing.T) {
	r := rand.New(rand.NewSource(163))
	for range 500 {
		s := anyStep(r)
		text, room := over(impl.StepText(s))
		first, ok := impl.ReadStep(text)
		second, _ := impl.ReadStep(text)
		if !ok || anyMeet(rooms(first), rooms(second)) || twoMeet(rooms(first)) {
			t.Errorf("%q: two lists share memory", text)
		}
		clear(room)
		if stepFields(first) != stepFields(s) {
			t.Errorf("%v changed with the text", s)
		}
		clear(first.Label.Cats)
		clear(first.Clear.Cats)
		if stepFields(second) != stepFields(s) {
			t.Errorf("%v: one answer was written over with the other", s)
		}
	}
}

func TestTextsStayWhenArgumentsChange(t *testing.T) {
	data, room := over("a b c")
	k := smallKernel()
	k.Objects[2].Data, k.Objects[3].Items[1] = data, data
	kernel, step := impl.KernelText(k), impl.StepText(giving(1, impl.SyWrite, 1, data))
	want := kernelTextIn(k)
	clear(room)
	if kernel != want || step != "1 6 1 0 0 0 0 a b c" {
		t.Errorf("%q, %q", kernel, step)
	}
}

// textAnswers tells all that chapter 10 answers of some arguments.
func textAnswers(s impl.Step, k impl.Kernel, text string) string {
	step, kernel := impl.StepText(s), impl.KernelText(k)
	readStep, stepOk := impl.ReadStep(step)
	readKernel, kernelOk := impl.ReadKernel(kernel)
	otherStep, otherStepOk := impl.ReadStep(text)
	otherKernel, otherKernelOk := impl.ReadKernel(text)
	return fmt.Sprint(step, kernel, stepFields(readStep), stepOk, kernelText(readKernel), kernelOk,
		stepFields(otherStep), otherStepOk, kernelText(otherKernel), otherKernelOk)
}

// The same arguments give the same answers, also from many sides at once, and whoever gave up ahead of them.
func TestTextsBesideEachOther(t *testing.T) {
	type call struct {
		s    impl.Step
		k    impl.Kernel
		text string
		want string
	}
	r := rand.New(rand.NewSource(164))
	wrong := wrongKernels()
	others := []string{"", newText, newText + "fly\n", "1 1 0 0 0 0 0 ", "1 1 0 0 0 0 0", kernelTextIn(wrong["up is itself"]), joined(galleryLines()...), longText("item \n", 1000)}
	var calls []call
	for i := range 60 {
		c := call{s: spareAll(anyStep(r)), k: spareAll(anyKernel(r)), text: pick(r, others)}
		if i%5 == 0 {
			c.s.Thread, c.k = 0, wrong["up is itself"]
		}
		c.want = textAnswers(c.s, c.k, c.text)
		calls = append(calls, c)
	}
	var all sync.WaitGroup
	for side := range 8 {
		all.Go(func() {
			for i := range calls {
				c := calls[(i+7*side)%len(calls)]
				if got := textAnswers(c.s, c.k, c.text); got != c.want {
					t.Errorf("beside others: %s, alone: %s", got, c.want)
				}
			}
		})
	}
	all.Wait()
}

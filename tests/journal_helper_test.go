package tests

import (
	"fmt"
	"hash/crc32"
	"math/rand"
	"slices"
	"strconv"
	"strings"
	"testing"

	"loop.example/g00272/impl"
)

const topCount = 1000000000

// frameIn is the words of chapter 12 with the library's sum.
func frameIn(text string) string {
	n, sum := len(text), crc32.ChecksumIEEE([]byte(text))
	return string([]byte{byte(n >> 24), byte(n >> 16), byte(n >> 8), byte(n), byte(sum), byte(sum >> 8), byte(sum >> 16), byte(sum >> 24)}) + text
}

func baseIn(number int64, k impl.Kernel) string {
	return frameIn(fmt.Sprint(number) + "\n" + kernelTextIn(k))
}

func logIn(number int64, s impl.Step) string {
	return frameIn(fmt.Sprint(number) + "\n" + stepTextIn(s))
}

func newKernel(threads int64) impl.Kernel {
	k, _ := impl.KernelNew(threads)
	return k
}

// framesIn takes frames off the front by the words.
func framesIn(s string) ([]string, int) {
	var out []string
	at := 0
	for len(s)-at >= 8 {
		size := int(s[at])<<24 | int(s[at+1])<<16 | int(s[at+2])<<8 | int(s[at+3])
		if size > 1000000 || size > len(s)-at-8 || frameIn(s[at+8:at+8+size]) != s[at:at+8+size] {
			break
		}
		out = append(out, s[at+8:at+8+size])
		at += 8 + size
	}
	return out, at
}

func countIn(text string) (int64, bool) {
	n, err := strconv.ParseInt(text, 10, 64)
	return n, err == nil && n >= 0 && n <= topCount && fmt.Sprint(n) == text
}

// A state is what the files of a disk tell of a kernel.
type state struct {
	kernel impl.Kernel
	number int64
	good   bool
}

func stateIn(d impl.Disk) (state, int64) {
	w := drawerOf(d.Live)
	if !w.has("base") {
		return state{}, impl.StNone
	}
	frames, end := framesIn(w["base"])
	if len(frames) != 1 || end != len(w["base"]) {
		return state{}, impl.StBad
	}
	word, text, found := strings.Cut(frames[0], "\n")
	number, isNumber := countIn(word)
	k, isKernel := impl.ReadKernel(text)
	if !found || !isNumber || !isKernel {
		return state{}, impl.StBad
	}
	s := state{kernel: k, number: number}
	frames, end = framesIn(w["log"])
	s.good = end == len(w["log"])
	for _, f := range frames {
		word, text, found := strings.Cut(f, "\n")
		number, isNumber := countIn(word)
		step, isStep := impl.ReadStep(text)
		if !found || !isNumber || !isStep || number > s.number+1 {
			s.good = false
			break
		}
		if number == s.number+1 {
			s.kernel, _, _ = impl.Done(s.kernel, step)
			s.number = number
		}
	}
	return s, impl.StOk
}

// A wire gives the steps of an act their power, by the words of chapter 12.
type wire struct {
	disk  impl.Disk
	power int64
	code  int64
	steps int64
}

func (w *wire) powered() bool {
	if w.code != impl.StOk {
		return false
	}
	if w.power >= 0 && w.steps == w.power {
		w.code = impl.StPower
		return false
	}
	w.steps++
	return true
}

func (w *wire) do(op impl.DOp) {
	if !w.powered() {
		return
	}
	if codeOnDisk(w.disk, op) != impl.DkOk {
		w.code = impl.StFull
		return
	}
	w.disk = doneOnDisk(w.disk, op)
}

func (w *wire) sync() {
	if w.powered() {
		w.disk = synced(w.disk.Live...)
	}
}

func (w *wire) gone(name string) {
	if drawerOf(w.disk.Live).has(name) {
		w.do(remove(name))
		w.sync()
	}
}

func (w *wire) save(s state) {
	w.sync()
	w.gone("base.new")
	w.do(put("base.new", baseIn(s.number, s.kernel)))
	w.do(move("base.new", "base"))
	w.sync()
	w.gone("log")
}

// actIn is JournalDo of a right disk, and how many steps were made.
func actIn(d impl.Disk, a impl.Act) (impl.Disk, int64, int64) {
	if a.Kind == impl.AcCrash {
		left, ok := crashOnDisk(d, a.Keep, a.Torn)
		if !ok {
			return d, impl.StForm, 0
		}
		d = left
	}
	w := &wire{disk: d, power: a.Power}
	if w.code = codeOfAct(d, a); w.code == impl.StOk {
		w.act(a)
	}
	if w.code != impl.StOk && w.code != impl.StPower {
		w.disk = d
	}
	return w.disk, w.code, w.steps
}

// codeOfAct is what is told ahead of all steps.
func codeOfAct(d impl.Disk, a impl.Act) int64 {
	if a.Kind < 1 || a.Kind > 5 {
		return impl.StForm
	}
	if a.Kind == impl.AcNew {
		if drawerOf(d.Live).has("base") || a.Many < 1 || a.Many > 9 {
			return impl.StForm
		}
		return impl.StOk
	}
	s, code := stateIn(d)
	switch {
	case code != impl.StOk:
		return code
	case a.Kind == impl.AcLog && (!impl.StepOk(a.Step) || s.number == topCount):
		return impl.StForm
	case (a.Kind == impl.AcLog || a.Kind == impl.AcSave) && !s.good:
		return impl.StTorn
	}
	return impl.StOk
}

func (w *wire) act(a impl.Act) {
	s, _ := stateIn(w.disk)
	switch a.Kind {
	case impl.AcNew:
		for _, f := range w.disk.Live {
			w.do(remove(f.Name))
		}
		w.save(state{kernel: newKernel(a.Many)})
	case impl.AcLog:
		w.do(put("log", logIn(s.number+1, a.Step)))
		if a.Sync {
			w.sync()
		}
	case impl.AcSave:
		w.save(s)
	default:
		if !s.good {
			w.save(s)
		}
	}
}

const always = -1

func starting(many int64) impl.Act { return impl.Act{Kind: impl.AcNew, Many: many, Power: always} }

func logging(s impl.Step) impl.Act { return impl.Act{Kind: impl.AcLog, Step: s, Power: always} }

func syncing(s impl.Step) impl.Act {
	return impl.Act{Kind: impl.AcLog, Step: s, Sync: true, Power: always}
}

func saving() impl.Act { return impl.Act{Kind: impl.AcSave, Power: always} }

func opening() impl.Act { return impl.Act{Kind: impl.AcOpen, Power: always} }

func crashing(torn int64, keep ...int64) impl.Act {
	return impl.Act{Kind: impl.AcCrash, Keep: keep, Torn: torn, Power: always}
}

func powered(a impl.Act, power int64) impl.Act {
	a.Power = power
	return a
}

// journalSteps leave another kernel behind each, but for those that are refused.
func journalSteps() []impl.Step {
	return []impl.Step{
		making(1, impl.SyMake, 1, label(1)), giving(1, impl.SyWrite, 1001, "first"), simple(2, impl.SyCat, none), making(2, impl.SyQueue, 1, label(1)),
		simple(7, impl.SyCat, none), giving(2, impl.SyPut, 2002, " a b "), giving(1, impl.SyWrite, 1001, ""), simple(2, impl.SyTake, 2002),
		simple(2, impl.SyTake, 2002), making(1, impl.SyBox, 1, label(1)), raising(1, label(2)), simple(1, impl.SyDrop, 1001),
	}
}

func journalStep(i int) impl.Step { return journalSteps()[i%len(journalSteps())] }

// kernelsOf are the kernels that the beginnings of the steps make, the one of none first.
func kernelsOf(k impl.Kernel, list []impl.Step) []impl.Kernel {
	out := []impl.Kernel{k}
	for _, s := range list {
		k, _, _ = impl.Done(k, s)
		out = append(out, k)
	}
	return out
}

// played does acts that must be told StOk.
func played(t *testing.T, d impl.Disk, acts ...impl.Act) impl.Disk {
	t.Helper()
	for i, a := range acts {
		then, code := impl.JournalDo(d, a)
		if code != impl.StOk {
			t.Fatalf("act %d, %d: %d", i, a.Kind, code)
		}
		d = then
	}
	return d
}

func fileOn(d impl.Disk, name string) string { return drawerOf(d.Live)[name] }

func namesOn(d impl.Disk) string {
	var out []string
	for _, f := range d.Live {
		out = append(out, f.Name)
	}
	return strings.Join(out, " ")
}

func checkAct(t *testing.T, what string, d impl.Disk, a impl.Act, want int64, left impl.Disk) {
	t.Helper()
	then, code := impl.JournalDo(d, a)
	if code != want {
		t.Errorf("%s: %d, not %d", what, code, want)
	}
	checkDisk(t, what, then, left)
	words, wordsCode, _ := actIn(d, a)
	if wordsCode != want || !sameDisk(words, left) {
		t.Errorf("%s: by the words %d, %s", what, wordsCode, diskText(words))
	}
}

// checkRefused asks that the disk is as it was.
func checkRefused(t *testing.T, what string, d impl.Disk, a impl.Act, want int64) {
	t.Helper()
	checkAct(t, what, d, a, want, d)
}

func checkView(t *testing.T, what string, d impl.Disk, k impl.Kernel, number int64) {
	t.Helper()
	got, n, code := impl.JournalView(d)
	if code != impl.StOk || n != number || kernelText(got) != kernelText(k) {
		t.Errorf("%s: %d, number %d, not %d, the kernel is\n%s, not\n%s", what, code, n, number, kernelText(got), kernelText(k))
	}
}

func checkNoView(t *testing.T, what string, d impl.Disk, want int64) {
	t.Helper()
	if k, n, code := impl.JournalView(d); code != want || n != 0 || !isNoKernel(k) {
		t.Errorf("%s: %d, not %d; number %d, the kernel is\n%s", what, code, want, n, kernelText(k))
	}
}

// someAct is an act of any kind, most of them such as may be done on d.
func someAct(r *rand.Rand, d impl.Disk) impl.Act {
	a := impl.Act{Kind: pick(r, []int64{1, 2, 2, 2, 2, 3, 4, 5, 5}), Many: r.Int63n(4), Step: journalStep(r.Intn(30)), Sync: r.Intn(3) == 0, Power: always}
	if r.Intn(3) == 0 {
		a.Power = r.Int63n(9)
	}
	if r.Intn(20) == 0 {
		a.Step.Thread = 0
	}
	if r.Intn(30) == 0 {
		a.Kind = pick(r, []int64{0, 6, -1, highest, lowest})
	}
	if a.Kind == impl.AcCrash {
		a.Torn = pick(r, []int64{0, 1, 7, 8, 9, 20, 100, highest})
		a.Keep = slices.DeleteFunc(rising(0, int64(len(d.Ops))), func(int64) bool { return r.Intn(3) == 0 })
		if r.Intn(30) == 0 {
			a.Keep = append(a.Keep, pick(r, []int64{-1, 0, int64(len(d.Ops))}))
		}
		if r.Intn(30) == 0 {
			a.Torn = -1
		}
	}
	return a
}

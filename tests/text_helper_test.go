package tests

import (
	"fmt"
	"math/rand"
	"slices"
	"strings"
	"testing"

	"loop.example/g00272/impl"
)

const topText = 500000

// stepTextIn and kernelTextIn are the words of chapter 10 for right steps and kernels, without the program.
func stepTextIn(s impl.Step) string {
	return fmt.Sprintf("%d %d %d %d %d %s %s %s", s.Thread, s.Kind, s.Id, s.To, s.Cat, labelIn(s.Label), labelIn(s.Clear), s.Data)
}

func kernelTextIn(k impl.Kernel) string {
	var b strings.Builder
	for _, x := range k.Threads {
		fmt.Fprintf(&b, "thread %d %s %s %d%s\n", x.Id, labelIn(x.Label), labelIn(x.Clear), x.Made, behindBlanks(x.Owns))
	}
	for _, x := range k.Objects {
		fmt.Fprintf(&b, "object %d %d %d %s %s%s\n", x.Id, x.Kind, x.Up, labelIn(x.Label), labelIn(x.Clear), behindBlanks(x.Owns))
		if x.Data != "" {
			fmt.Fprintf(&b, "data %s\n", x.Data)
		}
		for _, item := range x.Items {
			fmt.Fprintf(&b, "item %s\n", item)
		}
	}
	return b.String()
}

// stepFields tells nil and an empty list alike, as the document does.
func stepFields(s impl.Step) string {
	return fmt.Sprintf("%d %d %d %d %d %q %v %v", s.Thread, s.Kind, s.Id, s.To, s.Cat, s.Data, s.Label, s.Clear)
}

func isNoStep(s impl.Step) bool { return stepFields(s) == stepFields(impl.Step{}) }

func checkStepComesBack(t *testing.T, name string, s impl.Step) {
	t.Helper()
	text := impl.StepText(s)
	if want := stepTextIn(s); text != want {
		t.Errorf("%s: the text of %v is %q, not %q", name, s, text, want)
	}
	if read, ok := impl.ReadStep(text); !ok || stepFields(read) != stepFields(s) {
		t.Errorf("%s: %q is read as %v %v, not as %v", name, text, read, ok, s)
	}
}

func checkKernelComesBack(t *testing.T, name string, k impl.Kernel) {
	t.Helper()
	text := impl.KernelText(k)
	if want := kernelTextIn(k); text != want {
		t.Errorf("%s: the text is\n%q, not\n%q", name, text, want)
	}
	if read, ok := impl.ReadKernel(text); !ok || kernelText(read) != kernelText(k) {
		t.Errorf("%s: %q is read as %v\n%s, not as\n%s", name, text, ok, kernelText(read), kernelText(k))
	}
}

// readsStep asks that whatever is read is right and, written again, has just the text's bytes; else nothing may be answered.
func readsStep(t *testing.T, text string) bool {
	t.Helper()
	s, ok := impl.ReadStep(text)
	if ok && (!impl.StepOk(s) || impl.StepText(s) != text || stepTextIn(s) != text) {
		t.Errorf("%q is read as %v, whose text is %q", text, s, stepTextIn(s))
	}
	if !ok && !isNoStep(s) {
		t.Errorf("%q is refused with %v", text, s)
	}
	return ok
}

func readsKernel(t *testing.T, text string) bool {
	t.Helper()
	k, ok := impl.ReadKernel(text)
	if ok && (!impl.KernelOk(k) || impl.KernelText(k) != text || kernelTextIn(k) != text) {
		t.Errorf("%q is read as\n%s, whose text is %q", text, kernelText(k), kernelTextIn(k))
	}
	if !ok && !isNoKernel(k) {
		t.Errorf("%.200q is refused with\n%s", text, kernelText(k))
	}
	return ok
}

func checkNoStep(t *testing.T, name string, text string) {
	t.Helper()
	if readsStep(t, text) {
		t.Errorf("%s: %q is read", name, text)
	}
}

func checkNoKernel(t *testing.T, name string, text string) {
	t.Helper()
	if readsKernel(t, text) {
		t.Errorf("%s: %.200q is read", name, text)
	}
}

// byteEdits hands on the text with a byte too few, too many or another one, at each place.
func byteEdits(text string, bytes []byte, hand func(string)) {
	for i := range len(text) + 1 {
		if i < len(text) {
			hand(text[:i] + text[i+1:])
		}
		for _, b := range bytes {
			hand(text[:i] + string([]byte{b}) + text[i:])
			if i < len(text) {
				hand(text[:i] + string([]byte{b}) + text[i+1:])
			}
		}
	}
}

func allBytes() []byte {
	var out []byte
	for b := range 256 {
		out = append(out, byte(b))
	}
	return out
}

// blankTexts are Data that blanks, or the words of the texts themselves, could lead astray.
func blankTexts() []string {
	return []string{"", " ", "  ", " a", "a ", " a ", "a b", "a  b", "  a  b  ", "~ ~", longText(" ", impl.MaxData), longText("x", impl.MaxData), longText("x ", impl.MaxData/2), longText(" x", impl.MaxData/2),
		"0", "0 0", " 0 0 ", "1 1 0 0 0 0 0 ", "data", "data x", " data", "item", "item ", "item x", "object 1 3 0 1 0", "thread 1 1 2 0", "view 1", "\\n", "%d", "\"", "a,5:2"}
}

// wrongTexts are no Data: too long, or with bytes that may not stand in it.
func wrongTexts() []string {
	return []string{longText("x", impl.MaxData+1), longText(" ", impl.MaxData+1), "\n", "a\n", "\na", "a\nb", "a\n\nb", "\t", "a\tb", "\r", "a\r", "\x00", "\x1f", "\x7f", "\x80", "a\xc3\xa4", "\xff", "a\u00a0b", "\u2003"}
}

// noNumbers are texts that other readers of numbers may take, or that wrap round to small ones.
func noNumbers() []string {
	return []string{"", "00", "01", "001", "0000000001", "00000000001", "+1", "-1", "-0", "+0", "- 1", "1.", "1.0", ".1", "1e0", "0x1", "0b1", "0o1", "1_", "1_0", "_1", "1,", "1:", "a", "1a", "a1", "\uff11", "\u0661", "1\n", "1\t", "\t1", "1\x00", "\x001",
		"1000000000", "4294967295", "4294967296", "4294967297", "9999999999", "10000000000", "10000000001", "9223372036854775807", "9223372036854775808", "18446744073709551615", "18446744073709551616", "18446744073709551617", "-9223372036854775808", "340282366920938463463374607431768211457", longText("9", 1000), longText("0", 1000), longText("0", 1000) + "1"}
}

func noLabels() []string {
	out := []string{"4", "10", "1,", ",", ",5:2", "1,5", "1,5:", "1,:2", "1,:", "1:2", "1,5:2,", "1,,5:2", "1,5:2,,7:2", "1,5:2:3", "1,5:2;7:2", "1,5:1", "1,5:4", "1,0:2", "1,10000:2", "1,05:2", "1,5:02", "01,5:2", "1,5:-1", "1,-5:2", "1,+5:2", "1,5:2,5:2", "1,5:2,5:3", "1,7:2,5:2", "1,5:2,\n7:2", "1,5:2\n", "1,5\t:2", "1,18446744073709551617:2", "1,5:18446744073709551618", "{1 []}",
		labelIn(run(1, 1, impl.MaxCats+1, 2)), labelIn(run(0, 9987, impl.MaxCats+1, 3))}
	return append(out, noNumbers()...)
}

// anyData has many blanks, and now and then none but these.
func anyData(r *rand.Rand) string {
	out := make([]byte, r.Intn(impl.MaxData+1))
	blanks := r.Intn(4)
	for i := range out {
		out[i] = byte(32 + r.Intn(127-32))
		if r.Intn(3) < blanks {
			out[i] = ' '
		}
	}
	return string(out)
}

func anyLabel(r *rand.Rand) impl.Label { return someLabels(1, r.Int63())[0] }

// anyStep is a right step, whatever kernel there is.
func anyStep(r *rand.Rand) impl.Step {
	s := impl.Step{Thread: 1 + r.Int63n(impl.MaxThread), Kind: 1 + r.Int63n(impl.SyList)}
	number := func() int64 { return pick(r, []int64{1, topNumber, 1 + r.Int63n(9), 1 + r.Int63n(topNumber)}) }
	if has(s.Kind, "Id") {
		s.Id = number()
	}
	if has(s.Kind, "To") {
		s.To = number()
	}
	if has(s.Kind, "Cat") {
		s.Cat = pick(r, []int64{1, impl.MaxCat, 1 + r.Int63n(impl.MaxCat)})
	}
	if s.Kind == impl.SyGate && r.Intn(3) == 0 {
		s.Cat = 0
	}
	if has(s.Kind, "Data") {
		s.Data = pick(r, append(blankTexts(), anyData(r), anyData(r), anyData(r)))
	}
	if has(s.Kind, "Label") {
		s.Label = anyLabel(r)
	}
	if has(s.Kind, "Clear") {
		s.Clear = anyLabel(r)
	}
	return s
}

// anyKernel is a right kernel with labels, data and owned categories of all sizes.
func anyKernel(r *rand.Rand) impl.Kernel {
	k := someKernel(r)
	for i := range k.Threads {
		x := &k.Threads[i]
		x.Label, x.Clear, x.Owns = anyLabel(r), anyLabel(r), someCats(r, impl.MaxCat, r.Intn(impl.MaxOwns+1))
	}
	for i := range k.Objects {
		o := &k.Objects[i]
		o.Label = anyLabel(r)
		switch o.Kind {
		case impl.ObSegment:
			o.Data = pick(r, append(blankTexts(), anyData(r)))
		case impl.ObQueue:
			o.Items = nil
			for range r.Intn(impl.MaxItems + 1) {
				o.Items = append(o.Items, pick(r, append(blankTexts(), anyData(r))))
			}
		case impl.ObGate:
			o.Clear, o.Owns = anyLabel(r), someCats(r, impl.MaxCat, r.Intn(impl.MaxOwns+1))
		}
	}
	return k
}

// greatest has as many threads and objects as there can be, with labels, items and owned categories as many and as long as they may be.
func greatest() impl.Kernel {
	k := fullKernel()
	most := run(3, 9988, impl.MaxCats, 2)
	for i := range k.Threads {
		k.Threads[i].Label, k.Threads[i].Clear, k.Threads[i].Owns = most, most, rising(9990, impl.MaxOwns)
	}
	for i, o := range k.Objects {
		k.Objects[i].Label = most
		if o.Kind == impl.ObSegment {
			k.Objects[i] = queueIn(o.Up, o.Id, most, slices.Repeat([]string{longText(" ", impl.MaxData)}, impl.MaxItems)...)
		}
	}
	return k
}

package tests

import (
	"slices"
	"strings"
	"testing"

	"loop.example/g00272/impl"
)

const topNumber = 9030

// barest are the least right steps of each kind.
func barest() map[int64]impl.Step {
	out := map[int64]impl.Step{}
	for kind := int64(impl.SyCat); kind <= impl.SyList; kind++ {
		s := impl.Step{Thread: 1, Kind: kind}
		switch kind {
		case impl.SyCat, impl.SyRaise:
		case impl.SyLeave:
			s.Cat = 1
		case impl.SyCopy:
			s.Id, s.To = 1, 1
		default:
			s.Id = 1
		}
		out[kind] = s
	}
	return out
}

// fieldsOf says which fields a kind has, as the document lists them.
func fieldsOf(kind int64) string {
	return map[int64]string{
		impl.SyCat: "", impl.SyMake: "Id Label", impl.SyQueue: "Id Label", impl.SyBox: "Id Label", impl.SyGate: "Id Label Clear Cat",
		impl.SyWrite: "Id Data", impl.SyPut: "Id Data", impl.SyRead: "Id", impl.SyTake: "Id", impl.SyDrop: "Id", impl.SyEnter: "Id",
		impl.SyList: "Id", impl.SyCopy: "Id To", impl.SyRaise: "Label", impl.SyLeave: "Cat",
	}[kind]
}

func has(kind int64, field string) bool {
	return slices.Contains(strings.Fields(fieldsOf(kind)), field)
}

type fieldChange struct {
	field string
	name  string
	// right: the step stays right where its kind has the field.
	right  bool
	change func(*impl.Step)
}

func fieldChanges() []fieldChange {
	out := []fieldChange{
		{"Data", "a byte", true, func(s *impl.Step) { s.Data = "x" }},
		{"Data", "40 bytes", true, func(s *impl.Step) { s.Data = longText("x", impl.MaxData) }},
		{"Data", "41 bytes", false, func(s *impl.Step) { s.Data = longText("x", impl.MaxData+1) }},
		{"Data", "byte 31", false, func(s *impl.Step) { s.Data = "\x1f" }},
		{"Data", "byte 32", true, func(s *impl.Step) { s.Data = " " }},
		{"Data", "byte 126", true, func(s *impl.Step) { s.Data = "~" }},
		{"Data", "byte 127", false, func(s *impl.Step) { s.Data = "a\x7f" }},
		{"Data", "byte 200", false, func(s *impl.Step) { s.Data = "a\xc8b" }},
		{"Label", "base 3", true, func(s *impl.Step) { s.Label = label(3) }},
		{"Label", "base 0 and a category", true, func(s *impl.Step) { s.Label = label(0, impl.Cat{Id: 5, Level: 1}) }},
		{"Clear", "base 3", true, func(s *impl.Step) { s.Clear = label(3) }},
		{"Clear", "base 0 and a category", true, func(s *impl.Step) { s.Clear = label(0, impl.Cat{Id: 5, Level: 1}) }},
	}
	for n, right := range map[int64]bool{-1: false, 1: true, 2: true, topNumber: true, topNumber + 1: false, impl.MaxCat: false, lowest: false, highest: false} {
		out = append(out, fieldChange{"Id", "number", right, func(s *impl.Step) { s.Id = n }})
		out = append(out, fieldChange{"To", "number", right, func(s *impl.Step) { s.To = n }})
	}
	for n, right := range map[int64]bool{-1: false, 1: true, 5: true, impl.MaxCat: true, impl.MaxCat + 1: false, lowest: false, highest: false} {
		out = append(out, fieldChange{"Cat", "category", right, func(s *impl.Step) { s.Cat = n }})
	}
	for name, l := range wrongLabels() {
		out = append(out, fieldChange{"Label", name, false, func(s *impl.Step) { s.Label = l }})
		out = append(out, fieldChange{"Clear", name, false, func(s *impl.Step) { s.Clear = l }})
	}
	return out
}

func TestStepsHaveJustTheFieldsOfTheirKind(t *testing.T) {
	for kind, bare := range barest() {
		if !impl.StepOk(bare) {
			t.Errorf("kind %d: %v is right", kind, bare)
		}
		for _, c := range fieldChanges() {
			s := bare
			c.change(&s)
			if want := c.right && has(kind, c.field); impl.StepOk(s) != want {
				t.Errorf("kind %d, %s, %s: StepOk(%v) is %v", kind, c.field, c.name, s, !want)
			}
		}
	}
}

func TestStepsWantTheirFields(t *testing.T) {
	for kind, bare := range barest() {
		s := bare
		s.Id = 0
		if impl.StepOk(s) == has(kind, "Id") {
			t.Errorf("kind %d with Id 0: %v", kind, impl.StepOk(s))
		}
		s = bare
		s.To = 0
		if impl.StepOk(s) == has(kind, "To") {
			t.Errorf("kind %d with To 0: %v", kind, impl.StepOk(s))
		}
		s = bare
		s.Cat = 0
		if impl.StepOk(s) != (kind != impl.SyLeave) {
			t.Errorf("kind %d with Cat 0: %v", kind, impl.StepOk(s))
		}
		s = bare
		s.Label.Cats, s.Clear.Cats = []impl.Cat{}, []impl.Cat{}
		if !impl.StepOk(s) {
			t.Errorf("kind %d with empty lists", kind)
		}
		for n, right := range map[int64]bool{-1: false, 0: false, 1: true, impl.MaxThread: true, impl.MaxThread + 1: false, lowest: false, highest: false} {
			s = bare
			s.Thread = n
			if impl.StepOk(s) != right {
				t.Errorf("kind %d of thread %d: %v", kind, n, !right)
			}
		}
	}
	for _, kind := range []int64{lowest, -1, 0, impl.SyList + 1, highest} {
		for _, s := range barest() {
			s.Kind = kind
			if impl.StepOk(s) || len(impl.Named(s)) != 0 {
				t.Errorf("kind %d is none", kind)
			}
		}
	}
	if impl.StepOk(impl.Step{}) {
		t.Error("the zero value is no step")
	}
}

func TestNamedAreIdAndTo(t *testing.T) {
	for kind, s := range barest() {
		var want []int64
		if has(kind, "Id") {
			s.Id = 7
			want = append(want, 7)
		}
		if has(kind, "To") {
			s.To = topNumber
			want = append(want, topNumber)
		}
		if got := impl.Named(s); !slices.Equal(got, want) {
			t.Errorf("kind %d names %v", kind, got)
		}
		s.Thread = 0
		if got := impl.Named(s); len(got) != 0 {
			t.Errorf("kind %d of no thread names %v", kind, got)
		}
	}
	if got := impl.Named(copying(1, topNumber, 2)); !slices.Equal(got, []int64{topNumber, 2}) {
		t.Error("Id comes first", got)
	}
	if got := impl.Named(copying(1, 5, 5)); !slices.Equal(got, []int64{5, 5}) {
		t.Error("Id and To alike are both named", got)
	}
	if got := impl.Named(copying(1, topNumber+1, 5)); len(got) != 0 {
		t.Error("one past the last number", got)
	}
}

// Each refusal is told ahead of all those that the document tells behind it.
func TestTheFirstRefusalIsTold(t *testing.T) {
	k := house()
	ahead := kernelText(k)
	wrong := house()
	wrong.Objects[1].Up = 77
	for kind, s := range barest() {
		bad := s
		bad.Thread, bad.Data = absent, "\n"
		gone := s
		gone.Thread = absent
		if has(kind, "Id") {
			gone.Id = 8888
		}
		for name, step := range map[string]impl.Step{"right": s, "not right": bad, "of no thread": gone, "zero": {}} {
			if then, code, told := impl.Done(wrong, step); code != impl.AnWrong || !isNoKernel(then) || told != "" {
				t.Errorf("kind %d, %s, and the kernel wrong: %d %q", kind, name, code, told)
			}
		}
		if then, code, told := impl.Done(k, bad); code != impl.AnForm || kernelText(then) != ahead || told != "" {
			t.Errorf("kind %d, not right, of no thread: %d %q", kind, code, told)
		}
		if then, code, told := impl.Done(k, gone); code != impl.AnThread || kernelText(then) != ahead || told != "" {
			t.Errorf("kind %d, of no thread, of no object: %d %q", kind, code, told)
		}
	}
}

func TestWrongKernelsAreRefused(t *testing.T) {
	for name, k := range wrongKernels() {
		for kind, s := range barest() {
			s.Thread = 2
			if then, code, told := impl.Done(k, s); code != impl.AnWrong || !isNoKernel(then) || told != "" {
				t.Errorf("%s, kind %d: %d %q\n%s", name, kind, code, told, kernelText(then))
			}
		}
	}
}

func TestWrongStepsAreRefused(t *testing.T) {
	k := house()
	ahead := kernelText(k)
	for kind, bare := range barest() {
		for _, c := range fieldChanges() {
			s := bare
			c.change(&s)
			if c.right && has(kind, c.field) {
				continue
			}
			if then, code, told := impl.Done(k, s); code != impl.AnForm || kernelText(then) != ahead || told != "" {
				t.Errorf("kind %d, %s, %s: %d %q", kind, c.field, c.name, code, told)
			}
		}
	}
}

func TestStepsInAFullKernel(t *testing.T) {
	k := fullKernel()
	ahead := kernelText(k)
	for kind, s := range barest() {
		then, code, _ := impl.Done(k, s)
		makes := kind >= impl.SyCat && kind <= impl.SyGate
		if makes && kind != impl.SyCat {
			s.Label = label(1)
			then, code, _ = impl.Done(k, s)
		}
		if makes && (code != impl.AnFull || kernelText(then) != ahead) {
			t.Errorf("kind %d: %d", kind, code)
		}
	}
	then, code, told := impl.Done(k, giving(9, impl.SyWrite, topNumber, "last"))
	if o, ok := objectIn(then, topNumber); code != impl.AnDone || told != "" || !ok || o.Data != "last" {
		t.Error(code, told)
	}
	if _, code, told := impl.Done(then, simple(1, impl.SyRead, topNumber)); code != impl.AnDone || told != "last" {
		t.Error(code, told)
	}
	then, code, _ = impl.Done(k, simple(1, impl.SyDrop, 9001))
	if code != impl.AnDone || len(then.Objects) != 241 || !impl.KernelOk(then) {
		t.Error(code, len(then.Objects))
	}
}

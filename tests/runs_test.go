package tests

import (
	"fmt"
	"slices"
	"testing"

	"loop.example/g00272/impl"
)

// Threads of court, by what they are there for, as an observer with the label 1 has them.
const (
	openOne   = 1 // felt, owns nothing
	openOwner = 2 // felt, owns 1001
	highOne   = 3 // not felt, owns nothing
	highOwner = 4 // felt just because it owns 1001
)

// Objects of court, likewise.
const (
	courtBox, courtSegment, courtQueue       = 1001, 1002, 1003
	hiddenBox, hiddenSegment, hiddenQueue    = 1004, 1005, 1006
	courtGate, emptyGate, wideGate, highGate = 1007, 1008, 1009, 1010
	deepHidden, noObject                     = 1011, 1020
	nextOfOne, nextOfOwner                   = 1013, 2002
)

// court is tidy for the labels 1 and secret, both.
func court() impl.Kernel {
	one, high := label(1), secret()
	return impl.Kernel{
		Threads: []impl.Thread{
			{Id: openOne, Label: one, Clear: label(2), Made: 12},
			{Id: openOwner, Label: one, Clear: label(2), Owns: []int64{1001}, Made: 1},
			{Id: highOne, Label: high, Clear: label(2)},
			{Id: highOwner, Label: high, Clear: label(2), Owns: []int64{1001}},
		},
		Objects: []impl.Object{
			rootBox(one),
			boxIn(1, courtBox, one), segmentIn(courtBox, courtSegment, one, "open"), queueIn(1, courtQueue, one, "first"),
			boxIn(1, hiddenBox, high), segmentIn(1, hiddenSegment, high, "secret"), queueIn(hiddenBox, hiddenQueue, high),
			gateIn(1, courtGate, one, label(3), 1001), gateIn(1, emptyGate, one, label(3)), gateIn(1, wideGate, one, label(3), 5, 6), gateIn(1, highGate, high, label(3), 1001),
			segmentIn(hiddenBox, deepHidden, high, "deep"),
		},
	}
}

func TestCourtIsRight(t *testing.T) {
	k := court()
	if !impl.KernelOk(k) || !impl.Tidy(k, label(1)) || !impl.Tidy(k, secret()) || !impl.Tidy(k, label(0)) {
		t.Fatal("the tests of runs stand on it")
	}
	for id, felt := range map[int64]bool{openOne: true, openOwner: true, highOne: false, highOwner: true} {
		if feltIn(k, id, label(1)) != felt {
			t.Fatal(id)
		}
	}
}

func answersText(list []impl.Answer) string {
	out := ""
	for _, a := range list {
		out += fmt.Sprintf("%d %q\n", a.Code, a.Text)
	}
	return out
}

// ranIn is the document's words: one step behind the other.
func ranIn(k impl.Kernel, list []impl.Step) (impl.Kernel, []impl.Answer) {
	var answers []impl.Answer
	for _, s := range list {
		then, code, text := impl.Done(k, s)
		answers = append(answers, impl.Answer{Code: code, Text: text})
		k = then
	}
	return k, answers
}

// mixed has steps that are done and told of, refused ones, steps that are not right, and one whose thread there is not.
func mixed() []impl.Step {
	return []impl.Step{
		simple(openOne, impl.SyRead, courtSegment),
		simple(openOne, impl.SyRead, hiddenSegment),
		simple(openOne, impl.SyTake, courtQueue),
		simple(openOne, impl.SyTake, courtQueue),
		simple(openOne, 99, none),
		giving(openOne, impl.SyWrite, courtSegment, "line\n"),
		raising(openOne, label(9)),
		simple(8, impl.SyCat, none),
		simple(highest, impl.SyCat, none),
		{},
		simple(openOwner, impl.SyCat, none),
		making(openOne, impl.SyMake, courtBox, label(1)),
		giving(openOne, impl.SyWrite, nextOfOne, "new"),
		simple(openOne, impl.SyList, courtBox),
		simple(openOne, impl.SyRead, nextOfOne),
	}
}

func mixedAnswers() []impl.Answer {
	return []impl.Answer{
		{Text: "open"}, {Code: impl.AnDenied}, {Text: "first"}, {Code: impl.AnEmpty}, {Code: impl.AnForm}, {Code: impl.AnForm}, {Code: impl.AnForm},
		{Code: impl.AnThread}, {Code: impl.AnForm}, {Code: impl.AnForm}, {Text: "2002"}, {Text: "1013"}, {}, {Text: "1002 1013"}, {Text: "new"},
	}
}

func TestRanAnswersEachStep(t *testing.T) {
	k, answers := impl.Ran(court(), mixed())
	if !slices.Equal(answers, mixedAnswers()) {
		t.Errorf("%s, not\n%s", answersText(answers), answersText(mixedAnswers()))
	}
	want := court()
	items(courtQueue)(&want)
	makes(openOwner, 1001, 2002)(&want)
	made(openOne, segmentIn(courtBox, nextOfOne, label(1), "new"))(&want)
	if kernelText(k) != kernelText(want) {
		t.Errorf("%s, not\n%s", kernelText(k), kernelText(want))
	}
}

func TestRunOfNoSteps(t *testing.T) {
	for _, list := range [][]impl.Step{nil, {}} {
		k, answers := impl.Ran(court(), list)
		if kernelText(k) != kernelText(court()) || len(answers) != 0 {
			t.Error(kernelText(k), answers)
		}
		for _, o := range observers() {
			places, ok := impl.Purged(court(), list, o)
			if h := impl.Handed(court(), list, o); h != -1 || len(places) != 0 || !ok {
				t.Error(o, h, places, ok)
			}
			// No step hands on where there is none, though the kernel is not tidy.
			places, ok = impl.Purged(untidy(), list, o)
			if h := impl.Handed(untidy(), list, o); h != -1 || len(places) != 0 || !ok {
				t.Error(o, h, places, ok)
			}
		}
	}
}

// untidy is not tidy for the label 1, and is for secret.
func untidy() impl.Kernel {
	k := court()
	k.Objects = append(k.Objects[:len(k.Objects)-1], segmentIn(hiddenBox, deepHidden, label(1), "deep"))
	return k
}

func TestRunsOfMaxSteps(t *testing.T) {
	if impl.MaxSteps != 60 {
		t.Fatal(impl.MaxSteps)
	}
	read := simple(openOne, impl.SyRead, courtSegment)
	for _, many := range []int{1, impl.MaxSteps - 1, impl.MaxSteps} {
		list := slices.Repeat([]impl.Step{read}, many)
		k, answers := impl.Ran(court(), list)
		if kernelText(k) != kernelText(court()) || !slices.Equal(answers, slices.Repeat([]impl.Answer{{Text: "open"}}, many)) {
			t.Errorf("%d steps: %v", many, answers)
		}
		places, ok := impl.Purged(court(), list, label(1))
		if h := impl.Handed(court(), list, label(1)); h != -1 || !ok || !slices.Equal(places, rising(0, int64(many))) {
			t.Errorf("%d steps: %d, %v, %v", many, h, places, ok)
		}
		list[many-1] = simple(openOwner, impl.SyRead, hiddenSegment)
		if h := impl.Handed(court(), list, label(1)); h != int64(many-1) {
			t.Errorf("%d steps, the last one hands on: %d", many, h)
		}
	}
	for _, s := range []impl.Step{read, {}, simple(openOwner, impl.SyRead, hiddenSegment)} {
		for _, many := range []int{impl.MaxSteps + 1, 2 * impl.MaxSteps} {
			checkWrongRun(t, "too many steps", court(), slices.Repeat([]impl.Step{s}, many), label(1))
		}
	}
}

func checkWrongRun(t *testing.T, name string, k impl.Kernel, list []impl.Step, o impl.Label) {
	t.Helper()
	if h := impl.Handed(k, list, o); h != -2 {
		t.Errorf("%s: %d hands on", name, h)
	}
	if places, ok := impl.Purged(k, list, o); ok || len(places) != 0 {
		t.Errorf("%s: %v, %v", name, places, ok)
	}
	if impl.LabelOk(o) {
		if then, answers := impl.Ran(k, list); !isNoKernel(then) || len(answers) != 0 {
			t.Errorf("%s: answered %v and\n%s", name, answers, kernelText(then))
		}
	}
}

func TestRunsOfWhatIsNotRight(t *testing.T) {
	for name, k := range wrongKernels() {
		for _, list := range [][]impl.Step{nil, {{}}, mixed(), make([]impl.Step, impl.MaxSteps+1)} {
			checkWrongRun(t, name, k, list, label(1))
			checkWrongRun(t, name+", and the label", k, list, label(-1))
		}
	}
	for name, o := range wrongLabels() {
		for _, list := range [][]impl.Step{nil, {{}}, mixed()} {
			checkWrongRun(t, name, court(), list, o)
			checkWrongRun(t, name, untidy(), list, o)
		}
	}
}

type runCase struct {
	name   string
	list   []impl.Step
	handed int64
	purged []int64
}

func checkRuns(t *testing.T, k impl.Kernel, o impl.Label, cases []runCase) {
	t.Helper()
	for _, c := range cases {
		if h := impl.Handed(k, c.list, o); h != c.handed {
			t.Errorf("%s: %d hands on, not %d", c.name, h, c.handed)
		}
		if places, ok := impl.Purged(k, c.list, o); !slices.Equal(places, c.purged) || ok != (c.handed == -1) {
			t.Errorf("%s: %v, %v, not %v", c.name, places, ok, c.purged)
		}
	}
}

func steps(list ...impl.Step) []impl.Step { return list }

func TestHandedByWhatIsNamed(t *testing.T) {
	read := simple(openOne, impl.SyRead, courtSegment)
	hidden := simple(openOwner, impl.SyRead, hiddenSegment)
	checkRuns(t, court(), label(1), []runCase{
		{"an owner names what is seen", steps(simple(openOwner, impl.SyRead, courtSegment)), -1, rising(0, 1)},
		{"an owner names what is not seen", steps(hidden), 0, nil},
		{"an owner names what there is not", steps(simple(openOwner, impl.SyRead, noObject)), 0, nil},
		{"an owner names nothing", steps(simple(openOwner, impl.SyCat, none), raising(openOwner, label(1)), leaving(openOwner, 7)), -1, rising(0, 3)},
		{"an owner is refused, what it names is not seen", steps(giving(openOwner, impl.SyPut, hiddenSegment, "x")), 0, nil},
		{"a felt thread that owns nothing names what is not seen", steps(simple(openOne, impl.SyRead, hiddenSegment)), -1, rising(0, 1)},
		{"a felt thread that owns nothing names what there is not", steps(simple(openOne, impl.SyRead, noObject)), -1, rising(0, 1)},
		{"a thread that is felt by what it owns names what is not seen", steps(simple(highOwner, impl.SyRead, hiddenSegment)), 0, nil},
		{"a thread that is felt by what it owns names what is seen", steps(simple(highOwner, impl.SyRead, courtSegment)), -1, rising(0, 1)},
		{"a thread that is not felt names what is not seen", steps(simple(highOne, impl.SyRead, hiddenSegment)), -1, nil},
		{"copied from what is not seen", steps(copying(openOwner, hiddenSegment, courtSegment)), 0, nil},
		{"copied to what is not seen", steps(copying(openOwner, courtSegment, hiddenSegment)), 0, nil},
		{"copied to what there is not", steps(copying(openOwner, courtSegment, noObject)), 0, nil},
		{"copied from seen to seen", steps(copying(openOwner, courtSegment, courtSegment)), -1, rising(0, 1)},
		{"made in a box that is not seen", steps(making(openOwner, impl.SyMake, hiddenBox, secret())), 0, nil},
		{"made, not seen, in a box that is", steps(making(openOwner, impl.SyMake, courtBox, secret())), -1, rising(0, 1)},
		{"made so, and named then", steps(making(openOwner, impl.SyMake, courtBox, secret()), simple(openOwner, impl.SyRead, nextOfOwner)), 1, nil},
		{"made to be seen, and named then", steps(making(openOwner, impl.SyMake, courtBox, label(1)), simple(openOwner, impl.SyRead, nextOfOwner)), -1, rising(0, 2)},
		{"dropped, and named then", steps(simple(openOwner, impl.SyDrop, courtSegment), simple(openOwner, impl.SyRead, courtSegment)), 1, nil},
		{"named, and owned behind it", steps(simple(openOne, impl.SyRead, hiddenSegment), simple(openOne, impl.SyCat, none)), -1, rising(0, 2)},
		{"owned, and named behind it", steps(simple(openOne, impl.SyCat, none), simple(openOne, impl.SyRead, hiddenSegment)), 1, nil},
		{"owned by a gate, and named behind it", steps(simple(openOne, impl.SyEnter, wideGate), simple(openOne, impl.SyRead, hiddenSegment)), 1, nil},
		{"left, and named behind it", steps(leaving(openOwner, 1001), hidden), -1, rising(0, 2)},
		{"the first of two that hand on", steps(read, hidden, read, hidden), 1, nil},
		{"a step of a wrong form names nothing", steps(impl.Step{Thread: openOwner, Kind: impl.SyRead, Id: hiddenSegment, To: 1}), -1, rising(0, 1)},
		{"a number past all names nothing", steps(simple(openOwner, impl.SyRead, topNumber+1)), -1, rising(0, 1)},
	})
}

func TestHandedByWhoComesToBeFelt(t *testing.T) {
	enter := simple(highOne, impl.SyEnter, courtGate)
	checkRuns(t, court(), label(1), []runCase{
		{"by a gate", steps(enter), 0, nil},
		{"by a gate that is not seen", steps(simple(highOne, impl.SyRead, hiddenSegment), simple(highOne, impl.SyEnter, highGate)), 1, nil},
		{"not by a gate that hands on nothing", steps(simple(highOne, impl.SyEnter, emptyGate)), -1, nil},
		{"not by a gate of others", steps(simple(highOne, impl.SyEnter, wideGate)), -1, nil},
		{"not by a gate that refuses", steps(simple(highOne, impl.SyEnter, courtSegment)), -1, nil},
		{"not by raising", steps(raising(highOne, label(2)), raising(highOne, label(1)), raising(highOne, secret())), -1, nil},
		{"not by leaving", steps(simple(highOne, impl.SyEnter, wideGate), leaving(highOne, 5), leaving(highOne, 7)), -1, nil},
		{"not by making a category", steps(simple(highOne, impl.SyCat, none)), -1, nil},
		{"nobody else is", steps(raising(openOne, secret()), enter), 1, nil},
	})
}

// A label may name a category ahead of its making: who makes it comes to be felt.
func TestHandedByMakingACategory(t *testing.T) {
	k := court()
	k.Threads[2].Label = label(1, impl.Cat{Id: 3002, Level: 2})
	checkRuns(t, k, label(1), []runCase{
		{"the category that its label names", steps(simple(highOne, impl.SyCat, none), simple(highOne, impl.SyCat, none)), 1, nil},
		{"another one", steps(simple(highOne, impl.SyCat, none), simple(highOne, impl.SyRead, courtSegment)), -1, nil},
	})
}

func TestWhoIsNotFeltAnyMore(t *testing.T) {
	hidden := simple(openOwner, impl.SyRead, hiddenSegment)
	checkRuns(t, court(), label(1), []runCase{
		{"by raising", steps(raising(openOne, secret()), simple(openOne, impl.SyRead, hiddenSegment), simple(openOwner, impl.SyRead, courtSegment)), -1, []int64{0, 2}},
		{"by raising, past what it owns", steps(raising(openOwner, label(2)), hidden), -1, rising(0, 1)},
		{"not by raising in what it owns", steps(raising(openOwner, secret()), simple(openOwner, impl.SyRead, courtSegment)), -1, rising(0, 2)},
		{"by leaving", steps(leaving(highOwner, 1001), simple(highOwner, impl.SyRead, hiddenSegment)), -1, rising(0, 1)},
		{"not by a raise that is refused", steps(raising(openOne, label(3)), simple(openOne, impl.SyRead, courtSegment)), -1, rising(0, 2)},
		{"by leaving, and felt again by a gate", steps(leaving(highOwner, 1001), simple(highOwner, impl.SyEnter, courtGate)), 1, nil},
		{"by raising in what it owns, and leaving it then", steps(raising(openOwner, secret()), leaving(openOwner, 1001), simple(openOwner, impl.SyRead, deepHidden)), -1, rising(0, 2)},
	})
}

func TestRunsOfAKernelThatIsNotTidy(t *testing.T) {
	drop := simple(openOwner, impl.SyDrop, hiddenBox)
	all := mixed()
	checkRuns(t, untidy(), label(1), []runCase{
		{"a step that does nothing", steps(simple(openOne, impl.SyList, 1)), 0, nil},
		{"a step that is not right", steps(impl.Step{}), 0, nil},
		{"a thread that there is not", steps(simple(8, impl.SyCat, none)), 0, nil},
		{"a thread that is not felt", steps(simple(highOne, impl.SyRead, hiddenSegment)), 0, nil},
		{"tidied at once", steps(drop, drop), 0, nil},
		{"many", all, 0, nil},
	})
	checkRuns(t, untidy(), secret(), []runCase{{"tidy for another", steps(drop), -1, rising(0, 1)}})
	k, _ := impl.Ran(untidy(), steps(drop))
	checkRuns(t, k, label(1), []runCase{{"tidied ahead", steps(simple(openOne, impl.SyList, 1)), -1, rising(0, 1)}})
	// An owner that is felt makes a seen object in a box that is not: that step hands on already.
	checkRuns(t, court(), label(1), []runCase{{"made untidy", steps(making(openOwner, impl.SyMake, hiddenBox, label(1)), simple(openOne, impl.SyList, 1)), 0, nil}})
}

func TestPurgedOfAMixedRun(t *testing.T) {
	list := mixed()
	checkRuns(t, court(), label(1), []runCase{{"mixed", list, -1, []int64{0, 1, 2, 3, 4, 5, 6, 10, 11, 12, 13, 14}}})
	checkRuns(t, court(), label(0), []runCase{{"an observer that sees and feels nothing", list, -1, nil}})
	checkRuns(t, court(), label(3), []runCase{{"an observer that sees all", list, -1, []int64{0, 1, 2, 3, 4, 5, 6, 10, 11, 12, 13, 14}}})
	checkRuns(t, court(), label(1), []runCase{
		{"steps that are not right, of threads that are felt and of others", steps(simple(openOne, 0, none), simple(highOne, 0, none), simple(8, 0, none), simple(highOne, impl.SyCat, 1), simple(openOwner, impl.SyCat, 1)), -1, []int64{0, 4}},
		{"a thread that there is not", steps(simple(8, impl.SyCat, none), simple(0, impl.SyCat, none), simple(-1, impl.SyCat, none), simple(lowest, impl.SyCat, none)), -1, nil},
		{"in turns", steps(simple(highOne, impl.SyRead, 1), simple(openOne, impl.SyRead, 1), simple(highOne, impl.SyRead, 1), simple(openOne, impl.SyRead, 1)), -1, []int64{1, 3}},
	})
}

package tests

import (
	"math/rand"
	"slices"
	"strings"
	"testing"

	"loop.example/g00272/impl"
)

// stepTexts are steps of each kind, with texts that were worked out by hand.
func stepTexts() map[string]impl.Step {
	cat := func(id int64, level int64) impl.Cat { return impl.Cat{Id: id, Level: level} }
	twelve := label(0, cat(1, 1), cat(22, 2), cat(333, 3), cat(4444, 1), cat(5000, 2), cat(6000, 3), cat(7000, 1), cat(8000, 2), cat(9000, 3), cat(9990, 1), cat(9998, 2), cat(9999, 3))
	return map[string]impl.Step{
		"9 1 0 0 0 0 0 ":                         simple(9, impl.SyCat, none),
		"1 2 1 0 0 1,1001:2 0 ":                  making(1, impl.SyMake, 1, label(1, cat(1001, 2))),
		"2 3 9030 0 0 0 0 ":                      making(2, impl.SyQueue, topNumber, label(0)),
		"3 4 1002 0 0 3,1:0,9999:2 0 ":           making(3, impl.SyBox, 1002, label(3, cat(1, 0), cat(9999, 2))),
		"4 5 1 0 1001 1 2,5:3 ":                  gating(4, 1, label(1), label(2, cat(5, 3)), 1001),
		"4 5 20 0 0 0 0 ":                        gating(4, 20, label(0), label(0), 0),
		"4 5 20 0 9999 2,7:0 0,7:1,8:2 ":         gating(4, 20, label(2, cat(7, 0)), label(0, cat(7, 1), cat(8, 2)), 9999),
		"5 6 1005 0 0 0 0 ":                      giving(5, impl.SyWrite, 1005, ""),
		"5 6 1005 0 0 0 0  ":                     giving(5, impl.SyWrite, 1005, " "),
		"5 6 1005 0 0 0 0    ":                   giving(5, impl.SyWrite, 1005, "   "),
		"5 6 1005 0 0 0 0  a  b ":                giving(5, impl.SyWrite, 1005, " a  b "),
		"5 6 1005 0 0 0 0 0 0 0":                 giving(5, impl.SyWrite, 1005, "0 0 0"),
		"6 7 305 0 0 0 0 ":                       simple(6, impl.SyRead, 305),
		"7 8 1005 9030 0 0 0 ":                   copying(7, 1005, topNumber),
		"7 8 44 44 0 0 0 ":                       copying(7, 44, 44),
		"8 9 10 0 0 0 0 ~":                       giving(8, impl.SyPut, 10, "~"),
		"8 9 10 0 0 0 0 !\"#$%&'()*+,-./0123456": giving(8, impl.SyPut, 10, "!\"#$%&'()*+,-./0123456"),
		"1 10 2 0 0 0 0 ":                        simple(1, impl.SyTake, 2),
		"2 11 3 0 0 0 0 ":                        simple(2, impl.SyDrop, 3),
		"3 12 0 0 0 0,1:1,22:2,333:3,4444:1,5000:2,6000:3,7000:1,8000:2,9000:3,9990:1,9998:2,9999:3 0 ": raising(3, twelve),
		"3 12 0 0 0 3 0 ":                     raising(3, label(3)),
		"4 13 400 0 0 0 0 ":                   simple(4, impl.SyEnter, 400),
		"5 14 0 0 9999 0 0 ":                  leaving(5, impl.MaxCat),
		"5 14 0 0 1 0 0 ":                     leaving(5, 1),
		"6 15 6000 0 0 0 0 ":                  simple(6, impl.SyList, 6000),
		"6 6 1 0 0 0 0 " + longText("b ", 20): giving(6, impl.SyWrite, 1, "b b b b b b b b b b b b b b b b b b b b "),
	}
}

func TestStepTextsByteByByte(t *testing.T) {
	kinds := map[int64]int{}
	for text, s := range stepTexts() {
		if got := impl.StepText(s); got != text {
			t.Errorf("the text of %v is %q, not %q", s, got, text)
		}
		if got, ok := impl.ReadStep(text); !ok || stepFields(got) != stepFields(s) {
			t.Errorf("%q is read as %v %v, not as %v", text, got, ok, s)
		}
		kinds[s.Kind]++
	}
	if len(kinds) != impl.SyList {
		t.Errorf("not each kind is asked for: %v", kinds)
	}
}

func TestStepsComeBackWithTheirData(t *testing.T) {
	for _, kind := range []int64{impl.SyWrite, impl.SyPut} {
		for _, data := range blankTexts() {
			checkStepComesBack(t, "data", giving(1, kind, 1, data))
		}
		for b := byte(32); b <= 126; b++ {
			one := string([]byte{b})
			for _, data := range []string{one, " " + one, one + " ", one + one, longText(one, impl.MaxData)} {
				checkStepComesBack(t, "byte", giving(1, kind, 1, data))
			}
		}
		for size := range impl.MaxData + 1 {
			checkStepComesBack(t, "size", giving(9, kind, topNumber, longText(" ", size)))
		}
	}
}

func TestNoTextOfStepsThatAreNotRight(t *testing.T) {
	right := map[bool]int{}
	for kind, bare := range barest() {
		for _, c := range fieldChanges() {
			s := bare
			c.change(&s)
			want := c.right && has(kind, c.field)
			right[want]++
			if want {
				checkStepComesBack(t, c.name, s)
				continue
			}
			if text := impl.StepText(s); text != "" {
				t.Errorf("%s: the text of %v is %q", c.name, s, text)
			}
			checkNoStep(t, c.name, stepTextIn(s))
		}
		for _, thread := range []int64{lowest, -1, 0, impl.MaxThread + 1, highest} {
			s := bare
			s.Thread = thread
			if text := impl.StepText(s); text != "" {
				t.Errorf("the text of %v is %q", s, text)
			}
			checkNoStep(t, "thread", stepTextIn(s))
		}
	}
	for _, kind := range []int64{lowest, -1, 0, impl.SyList + 1, highest} {
		s := impl.Step{Thread: 1, Kind: kind}
		if text := impl.StepText(s); text != "" {
			t.Errorf("the text of %v is %q", s, text)
		}
		checkNoStep(t, "kind", stepTextIn(s))
	}
	if right[true] < 50 || right[false] < 50 {
		t.Error(right)
	}
}

func TestNoStepOfWrongData(t *testing.T) {
	for _, data := range wrongTexts() {
		for kind, s := range barest() {
			s.Data = data
			if text := impl.StepText(s); text != "" {
				t.Errorf("kind %d: the text of %v is %q", kind, s, text)
			}
			checkNoStep(t, "data", stepTextIn(s))
		}
	}
}

// withWord is the text with another word at that place; Data are the last one, whatever is in them.
func withWord(text string, place int, word string) string {
	words := strings.SplitN(text, " ", 8)
	words[place] = word
	return strings.Join(words, " ")
}

func TestNoStepOfWrongNumbersAndLabels(t *testing.T) {
	whole := "1 5 1 0 1 1 1,5:2 "
	for _, text := range []string{whole, "1 8 1 1 0 0 0 ", "1 6 1 0 0 0 0 1", "1 14 0 0 1 0 0 ", "1 12 0 0 0 1 0 "} {
		if !readsStep(t, text) {
			t.Fatalf("%q is a step", text)
		}
		for place := range 5 {
			for _, word := range noNumbers() {
				checkNoStep(t, "number", withWord(text, place, word))
			}
		}
		for place := 5; place < 7; place++ {
			for _, word := range noLabels() {
				checkNoStep(t, "label", withWord(text, place, word))
			}
		}
	}
	for _, word := range []string{"0", "1", "2", "3", "0,1:1", "3,9999:0", "1,5:2,7:0", labelIn(run(1, 1, impl.MaxCats, 2)), labelIn(run(0, 9988, impl.MaxCats, 3))} {
		if !readsStep(t, withWord(whole, 5, word)) || !readsStep(t, withWord(whole, 6, word)) {
			t.Errorf("%q is a label", word)
		}
	}
	for place, most := range map[int]int64{0: impl.MaxThread, 2: topNumber, 4: impl.MaxCat} {
		for n := int64(1); n <= most+2; n++ {
			if readsStep(t, withWord(whole, place, numberText(n))) != (n <= most) {
				t.Errorf("%d at the place %d", n, place)
			}
		}
	}
}

func numberText(n int64) string { return strings.TrimSpace(behindBlanks([]int64{n})) }

func TestNoStepOfOtherTexts(t *testing.T) {
	for name, text := range map[string]string{
		"nothing":                    "",
		"a blank":                    " ",
		"blanks":                     longText(" ", 7),
		"no blank ahead of no data":  "1 1 0 0 0 0 0",
		"two blanks ahead of none":   "1 1 0 0 0 0 0  ",
		"data of a kind without":     "1 1 0 0 0 0 0 x",
		"a blank ahead":              " 1 1 0 0 0 0 0 ",
		"a blank as data of none":    "1 7 1 0 0 0 0  ",
		"a line feed behind":         "1 1 0 0 0 0 0 \n",
		"a line feed in place of it": "1 1 0 0 0 0 0\n",
		"a word less":                "1 1 0 0 0 0 ",
		"a word more":                "1 1 0 0 0 0 0 0 ",
		"words in another order":     "1 1 0 0 0 0 ,0 ",
		"kind ahead of thread":       "14 1 0 0 1 0 0 ",
		"label ahead of numbers":     "0 0 1 1 0 0 0 ",
		"tabs":                       "1\t1\t0\t0\t0\t0\t0\t",
		"another blank":              "1\u00a01 0 0 0 0 0 ",
		"kernel":                     "thread 1 1 2 0\nobject 1 3 0 1 0\n",
		"step in quotes":             "\"1 1 0 0 0 0 0 \"",
		"bytes of zero":              longText("\x00", 40),
		"clear of another kind":      "1 6 1 0 0 0 1 a",
		"label of another kind":      "1 6 1 0 0 1 0 a",
		"cat of another kind":        "1 6 1 0 1 0 0 a",
		"to of another kind":         "1 6 1 1 0 0 0 a",
		"no id":                      "1 6 0 0 0 0 0 a",
		"id of another kind":         "1 1 1 0 0 0 0 ",
	} {
		checkNoStep(t, name, text)
	}
	right := "1 6 1 0 0 0 0 a"
	for _, text := range []string{right + longText("a", 5000000), longText(" ", 5000000), longText("1 ", 2500000), longText("1", 5000000), "1 6 1 0 0 0,1:2" + longText(",1:2", 1000000) + " 0 a", longText(right+"\n", 100000)} {
		checkNoStep(t, "a long text", text)
	}
}

func TestABlankTooManyOrTooFewInAStep(t *testing.T) {
	for text, s := range stepTexts() {
		place := 0
		for i := range len(text) {
			if text[i] != ' ' || place == 7 {
				continue
			}
			place++
			// Behind the last of them are Data, which may begin with a blank, and with one more or less then.
			if fewer := text[:i] + text[i+1:]; readsStep(t, fewer) != (place == 7 && strings.HasPrefix(s.Data, " ")) {
				t.Errorf("%q", fewer)
			}
			for _, other := range []string{"\t", "\n", ",", "\x00", "_"} {
				checkNoStep(t, "another", text[:i]+other+text[i+1:])
			}
			if more := text[:i] + " " + text[i:]; readsStep(t, more) != (place == 7 && has(s.Kind, "Data") && len(s.Data) < impl.MaxData) {
				t.Errorf("%q", more)
			}
		}
		if place != 7 {
			t.Errorf("%q has %d blanks ahead of Data", text, place)
		}
	}
}

func TestStepTextsWithOtherBytes(t *testing.T) {
	t.Parallel()
	read := 0
	for text := range stepTexts() {
		byteEdits(text, allBytes(), func(other string) {
			if readsStep(t, other) {
				read++
			}
		})
		for i := range len(text) {
			readsStep(t, text[:i])
			readsStep(t, text[i:])
			readsStep(t, text+text[:i])
		}
		if t.Failed() {
			t.FailNow()
		}
	}
	if read < 1000 {
		t.Errorf("only %d were read: the test says too little", read)
	}
}

func TestStepsComeBackFromTheirTexts(t *testing.T) {
	r := rand.New(rand.NewSource(140))
	kinds := map[int64]int{}
	for range 20000 {
		s := anyStep(r)
		checkStepComesBack(t, "any step", s)
		kinds[s.Kind]++
		if t.Failed() {
			t.FailNow()
		}
	}
	for kind := int64(impl.SyCat); kind <= impl.SyList; kind++ {
		if kinds[kind] < 500 {
			t.Errorf("kind %d too seldom", kind)
		}
	}
}

// Words that are put together at random: some of them are steps.
func TestStepsOfWordsPutTogether(t *testing.T) {
	r := rand.New(rand.NewSource(141))
	numbers := slices.Concat([]string{"0", "0", "0", "0", "0", "0", "1", "1", "2", "9", "10", "9030", "9031", "9999", "10000"}, noNumbers()[:3])
	labels := slices.Concat([]string{"0", "0", "0", "0", "0", "0", "1", "3,5:2", "2,1:0,9999:3"}, noLabels()[:2])
	read := map[bool]int{}
	for range 200000 {
		words := []string{pick(r, numbers[6:10]), numberText(1 + r.Int63n(impl.SyList+1)), pick(r, numbers), pick(r, numbers[:7]), pick(r, numbers), pick(r, labels), pick(r, labels), pick(r, []string{"", "", "", "x", " ", "\n"})}
		text := strings.Join(words, " ")
		read[readsStep(t, text)]++
	}
	if read[true] < 1000 || read[false] < 1000 {
		t.Error(read)
	}
}

package tests

import (
	"fmt"
	"math/rand"
	"regexp"
	"slices"
	"strconv"
	"strings"
	"testing"

	"loop.example/g00272/impl"
)

// stepForms and otherForms are the lines of the table of chapter 13, behind the word that tells them apart.
func stepForms() map[string]string {
	return map[string]string{
		"cat": "", "make": "I L", "queue": "I L", "box": "I L", "gate": "I L L N", "write": "I W", "read": "I", "copy": "I I", "put": "I W",
		"take": "I", "drop": "I", "raise": "L", "enter": "I", "leave": "N", "list": "I",
	}
}

func stepWords() []string {
	return []string{"cat", "make", "queue", "box", "gate", "write", "read", "copy", "put", "take", "drop", "raise", "enter", "leave", "list"}
}

func otherForms() map[string][]string {
	return map[string][]string{
		"new": {"N"}, "save": {"", "N"}, "open": {"", "N"}, "crash": {"K N"}, "files": {""}, "threads": {""}, "view": {"L"},
	}
}

var (
	numberForm = regexp.MustCompile(`^(0|[1-9][0-9]{0,9})\z`)
	dataForm   = regexp.MustCompile(`^[ -~]{0,40}\z`)
)

func labelOfText(s string) impl.Label {
	pieces := strings.Split(s, ",")
	base, _ := strconv.ParseInt(pieces[0], 10, 64)
	l := impl.Label{Base: base}
	for _, p := range pieces[1:] {
		id, level, _ := strings.Cut(p, ":")
		n, _ := strconv.ParseInt(id, 10, 64)
		at, _ := strconv.ParseInt(level, 10, 64)
		l.Cats = append(l.Cats, impl.Cat{Id: n, Level: at})
	}
	return l
}

// A wording is what a line's words say by a form: its numbers, labels and words in their order.
type wording struct {
	numbers []int64
	labels  []impl.Label
	words   []string
}

func wordingOf(form string, words []string) (wording, bool) {
	var w wording
	letters := strings.Fields(form)
	if len(letters) != len(words) {
		return w, false
	}
	for i, letter := range letters {
		switch {
		case letter == "W":
			w.words = append(w.words, words[i])
		case letter == "L" && isLabelText(words[i]):
			w.labels = append(w.labels, labelOfText(words[i]))
		case letter != "L" && numberForm.MatchString(words[i]):
			n, _ := strconv.ParseInt(words[i], 10, 64)
			w.numbers = append(w.numbers, n)
		default:
			return w, false
		}
	}
	return w, true
}

// stepIn is the step of a line's words, if there is one and it is right.
func stepIn(words []string) (impl.Step, bool) {
	if len(words) < 2 || !numberForm.MatchString(words[0]) {
		return impl.Step{}, false
	}
	form, known := stepForms()[words[1]]
	w, ok := wordingOf(form, words[2:])
	if !known || !ok {
		return impl.Step{}, false
	}
	s := impl.Step{Kind: 1 + int64(slices.Index(stepWords(), words[1]))}
	s.Thread, _ = strconv.ParseInt(words[0], 10, 64)
	take := func() int64 {
		n := w.numbers[0]
		w.numbers = w.numbers[1:]
		return n
	}
	if has(s.Kind, "Id") {
		s.Id = take()
	}
	if has(s.Kind, "To") {
		s.To = take()
	}
	if has(s.Kind, "Cat") {
		s.Cat = take()
	}
	if has(s.Kind, "Label") {
		s.Label = w.labels[0]
	}
	if has(s.Kind, "Clear") {
		s.Clear = w.labels[1]
	}
	if has(s.Kind, "Data") {
		s.Data = w.words[0]
	}
	return s, isRightStep(s)
}

// isRightStep is the words of chapter 4 for a step that has no other fields than those of its kind.
func isRightStep(s impl.Step) bool {
	number := func(field string, n int64) bool { return !has(s.Kind, field) || n >= 1 && n <= topNumber }
	return s.Thread >= 1 && s.Thread <= 9 && number("Id", s.Id) && number("To", s.To) && dataForm.MatchString(s.Data) &&
		s.Cat <= impl.MaxCat && (s.Cat > 0 || s.Kind != impl.SyLeave)
}

func codeSaid(word string, code int64) string {
	if code == 0 {
		return "ok"
	}
	return fmt.Sprint(word, " ", code)
}

// loggedIn is the first two rows of the table.
func loggedIn(d impl.Disk, s impl.Step, sync bool) (impl.Disk, string) {
	ahead, _ := stateIn(d)
	then, code, _ := actIn(d, impl.Act{Kind: impl.AcLog, Step: s, Sync: sync, Power: always})
	if code != impl.StOk {
		return then, codeSaid("no", code)
	}
	if _, there := threadIn(ahead.kernel, s.Thread); !there {
		return then, codeSaid("not", impl.AnThread)
	}
	if code := codeByWords(ahead.kernel, s); code != impl.AnDone {
		return then, codeSaid("not", code)
	}
	_, told := thenByWords(ahead.kernel, s)
	return then, strings.TrimSuffix("ok "+told, " ")
}

// otherIn is the other rows of the table.
func otherIn(d impl.Disk, word string, w wording) (impl.Disk, string) {
	a := impl.Act{Power: always}
	s, code := stateIn(d)
	switch word {
	case "files":
		return d, strings.TrimSuffix("files "+namesOn(d), " ")
	case "threads", "view":
		if code != impl.StOk {
			return d, codeSaid("no", code)
		}
		if word == "view" {
			return d, "view" + behindBlanks(seenIn(s.kernel, w.labels[0]))
		}
		out := fmt.Sprint("threads ", s.number)
		for _, x := range s.kernel.Threads {
			out += fmt.Sprintf(" %d=%s", x.Id, labelIn(x.Label))
		}
		return d, out
	case "new":
		a.Kind, a.Many = impl.AcNew, w.numbers[0]
	case "crash":
		a.Kind, a.Keep, a.Torn = impl.AcCrash, rising(0, min(w.numbers[0], int64(len(d.Ops)))), w.numbers[1]
	default:
		a.Kind = map[string]int64{"save": impl.AcSave, "open": impl.AcOpen}[word]
		if len(w.numbers) > 0 {
			a.Power = w.numbers[0]
		}
	}
	then, code, _ := actIn(d, a)
	return then, codeSaid("no", code)
}

// lineIn is what a line with words does and says, by the words of chapter 13, without the program.
func lineIn(d impl.Disk, words []string) (impl.Disk, string) {
	if s, ok := stepIn(words); ok {
		return loggedIn(d, s, false)
	}
	if s, ok := stepIn(words[1:]); ok && words[0] == "sync" {
		return loggedIn(d, s, true)
	}
	for _, form := range otherForms()[words[0]] {
		if w, ok := wordingOf(form, words[1:]); ok {
			return otherIn(d, words[0], w)
		}
	}
	return d, "what"
}

func wordsIn(line string) []string {
	return slices.DeleteFunc(strings.Split(line, " "), func(word string) bool { return word == "" })
}

func scriptIn(text string) string {
	if len(text) > 4000 || strings.Count(text, "\n") > 40 || text != "" && text[len(text)-1] != '\n' {
		return "too long\n"
	}
	var d impl.Disk
	out := ""
	for _, line := range strings.Split(text, "\n") {
		if words := wordsIn(line); len(words) > 0 {
			then, said := lineIn(d, words)
			d, out = then, out+said+"\n"
		}
	}
	return out
}

// A turn is a line and what it says, "" for a line without words.
type turn struct{ line, said string }

func linesOf(turns []turn) []string {
	var out []string
	for _, x := range turns {
		out = append(out, x.line)
	}
	return out
}

func scriptOf(lines ...string) string {
	out := ""
	for _, line := range lines {
		out += line + "\n"
	}
	return out
}

// saidBy are the lines that a script says.
func saidBy(t *testing.T, script string) []string {
	t.Helper()
	said := impl.RunScript(script)
	if said == "" {
		return nil
	}
	if !strings.HasSuffix(said, "\n") {
		t.Fatalf("%q says %q, which is not ended", script, said)
	}
	return strings.Split(strings.TrimSuffix(said, "\n"), "\n")
}

func checkSays(t *testing.T, what string, script string, want string) {
	t.Helper()
	if got := impl.RunScript(script); got != want {
		t.Errorf("%s: %.300q says\n%q, not\n%q", what, script, got, want)
	}
	if words := scriptIn(script); words != want {
		t.Errorf("%s: %.300q says by the words\n%q, not\n%q", what, script, words, want)
	}
}

func checkTurns(t *testing.T, what string, turns ...turn) {
	t.Helper()
	want := ""
	for _, x := range turns {
		if x.said != "" {
			want += x.said + "\n"
		}
	}
	checkSays(t, what, scriptOf(linesOf(turns)...), want)
}

// yard has two threads more than the one that made all, and objects of each kind, open and secret.
func yard() []turn {
	return []turn{
		{"new 3", "ok"},
		{"1 cat", "ok 1001"},
		{"1 make 1 1", "ok 1002"},
		{"1 make 1 1,1001:2", "ok 1003"},
		{"1 queue 1 1", "ok 1004"},
		{"1 box 1 1", "ok 1005"},
		{"1 gate 1 1 3 1001", "ok 1006"},
		{"1 gate 1 1 0 0", "ok 1007"},
		{"1 make 1 1", "ok 1008"},
		{"1 box 1 1,1001:2", "ok 1009"},
		{"1 queue 1 1,1001:2", "ok 1010"},
		{"1 write 1002 data", "ok"},
		{"1 put 1010 item", "ok"},
	}
}

const yardSteps = 12

func inYard(turns ...turn) []turn { return slices.Concat(yard(), turns) }

// checkWhat asks that a line says "what" and changes nothing, where there is a journal and where there is none.
func checkWhat(t *testing.T, what string, line string) {
	t.Helper()
	checkTurns(t, what, turn{line, "what"}, turn{"files", "files"}, turn{"threads", "no 7"}, turn{"new 2", "ok"}, turn{"1 make 1 1", "ok 1001"},
		turn{line, "what"}, turn{"threads", "threads 1 1=1 2=1"}, turn{"files", "files base log"}, turn{"crash 0 0", "ok"}, turn{"threads", "threads 0 1=1 2=1"})
}

// lineOf is the line of a step; what Data it has is one word.
func lineOf(s impl.Step) string {
	out := fmt.Sprint(s.Thread, " ", stepWords()[s.Kind-1])
	for _, field := range strings.Fields(fieldsOf(s.Kind)) {
		out += " " + map[string]string{"Id": fmt.Sprint(s.Id), "To": fmt.Sprint(s.To), "Label": labelIn(s.Label), "Clear": labelIn(s.Clear), "Cat": fmt.Sprint(s.Cat), "Data": s.Data}[field]
	}
	return out
}

// someWrongLine says "what", or nothing.
func someWrongLine(r *rand.Rand) string {
	return pick(r, []string{"", " ", "   ", "fly", "1", "sync", "sync sync 1 cat", "sync new 1", "sync files", "1 fly", "1 cat 1", "cat", "new", "new 1 1", "new x", "0 cat", "10 cat", "1 make 1", "1 make 1 4", "1 make 0 1",
		"1 gate 1 1 3", "1 gate 1 1 4 0", "1 gate 1 1,5:1 3 0", "1 leave 0", "1 write 1", "1 write 1 a b", "1 write 1002 a\tb", "1 put 1004 \r", "files 1", "threads x", "view", "view 4", "view 1 1", "save x", "save 1 1", "open -1", "crash", "crash 1", "crash 1 1 1", "crash 01 1", "Files", "view 1,5:1"})
}

func someAsk(r *rand.Rand) string {
	return pick(r, []string{"files", "threads", "view " + labelIn(pick(r, observers()))})
}

// someLine is a line of any kind, most of them such as do something on d.
func someLine(r *rand.Rand, d impl.Disk) string {
	s, code := stateIn(d)
	if code != impl.StOk && r.Intn(3) > 0 {
		return fmt.Sprint("new ", r.Intn(5))
	}
	switch n := r.Intn(24); {
	case n == 0:
		return someWrongLine(r)
	case n == 1:
		return fmt.Sprint("new ", pick(r, []int{0, 1, 9, 10}))
	case n == 2:
		return pick(r, []string{"save", fmt.Sprint("save ", r.Intn(9))})
	case n == 3:
		return pick(r, []string{"open", fmt.Sprint("open ", r.Intn(3))})
	case n == 4:
		return fmt.Sprint("crash ", r.Intn(len(d.Ops)+2), " ", pick(r, []int64{0, 1, 7, 8, 20, 30, 40, 1000, 9999999999}))
	case n < 8:
		return someAsk(r)
	}
	if code != impl.StOk {
		s.kernel = newKernel(2)
	}
	step := someStep(r, s.kernel)
	if has(step.Kind, "Data") {
		step.Data = pick(r, []string{"x", "~", "word", longText("w", impl.MaxData), longText("w", impl.MaxData+1)})
	}
	if r.Intn(20) == 0 {
		step.Thread = r.Int63n(11)
	}
	return pick(r, []string{"", "", "", "sync "}) + lineOf(step)
}

// someScript is lines that may stand in one script together; about every fourth one has blanks where they may stand.
func someScript(r *rand.Rand, many int) []string {
	var d impl.Disk
	var out []string
	for range many {
		line := someLine(r, d)
		if r.Intn(4) == 0 {
			line = longText(" ", r.Intn(3)) + strings.ReplaceAll(line, " ", longText(" ", 1+r.Intn(2))) + longText(" ", r.Intn(3))
		}
		if len(scriptOf(append(out, line)...)) > impl.MaxLines {
			break
		}
		out = append(out, line)
		if words := wordsIn(line); len(words) > 0 {
			d, _ = lineIn(d, words)
		}
	}
	return out
}

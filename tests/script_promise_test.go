package tests

import (
	"fmt"
	"math/rand"
	"regexp"
	"slices"
	"strings"
	"testing"

	"loop.example/g00272/impl"
)

// richScript has each kind of line, each kind of step, and losses of power.
func richScript() []string {
	return []string{"threads", "new 3", "1 cat", "1 make 1 1,1001:2", "sync 1 write 1002 secret", "2 read 1002", "fly", "1 gate 1 1 3 1001", "2 enter 1003", "", "2 read 1002", "save 2", "crash 1 9", "2 leave 1001", "1 queue 1 1", "2 put 1004 a",
		"3 take 1004", "view 4", "1 box 1 1", "1 make 1005 1", "1 copy 1002 1006", "files", "save", "2 raise 2", "1 drop 1005", "crash 1 5", "view 3", "1 list 1", "open 0", "threads"}
}

// promiseScripts are scripts with all kinds of lines, of at most so many of them.
func promiseScripts(seed int64, many int, lines int) [][]string {
	r := rand.New(rand.NewSource(seed))
	out := [][]string{nil, {""}, linesOf(yard())[:min(lines, len(yard()))], richScript()[:min(lines, len(richScript()))]}
	for len(out) < many {
		out = append(out, someScript(r, 1+r.Intn(lines)))
	}
	return out
}

// saysSomething holds of lines with words.
func saysSomething(line string) bool { return len(wordsIn(line)) > 0 }

// What a script said stays said when more lines stand behind it: each line adds one line, or none where it has no words.
func TestWhatAScriptSaidStaysSaid(t *testing.T) {
	t.Parallel()
	for _, lines := range promiseScripts(600, 120, impl.MaxScript) {
		all := saidBy(t, scriptOf(lines...))
		said := 0
		for i := range len(lines) + 1 {
			if i > 0 && saysSomething(lines[i-1]) {
				said++
			}
			if got := saidBy(t, scriptOf(lines[:i]...)); said > len(all) || !slices.Equal(got, all[:said]) {
				t.Fatalf("%q, %d lines: %q, all of it %q", lines, i, got, all)
			}
		}
		if said != len(all) {
			t.Fatalf("%q says %q", lines, all)
		}
	}
}

// Up to the limits more lines change nothing of what was said, and one more takes all of it back.
func TestWhatAScriptSaidStaysSaidUpToTheLimits(t *testing.T) {
	for _, behind := range []string{"files", "", "1 cat", "fly", "crash 0 0"} {
		lines := richScript()
		first := saidBy(t, scriptOf(lines...))
		for len(lines) < impl.MaxScript {
			lines = append(lines, behind)
			if said := saidBy(t, scriptOf(lines...)); len(said) < len(first) || !slices.Equal(said[:len(first)], first) {
				t.Fatalf("%d lines: %q, not %q", len(lines), said, first)
			}
		}
		checkSays(t, "one line more", scriptOf(append(lines, behind)...), "too long\n")
		room := impl.MaxLines - len(scriptOf(lines...))
		lines[len(lines)-1] += longText(" ", room)
		if said := saidBy(t, scriptOf(lines...)); !slices.Equal(said[:len(first)], first) {
			t.Fatalf("%d bytes: %q, not %q", len(scriptOf(lines...)), said, first)
		}
		lines[len(lines)-1] += " "
		checkSays(t, "one byte more", scriptOf(lines...), "too long\n")
	}
}

// woven has between put behind each line, and one ahead of all.
func woven(lines []string, between func() string) ([]string, []bool) {
	out, own := []string{between()}, []bool{false}
	for _, line := range lines {
		out, own = append(out, line, between()), append(own, true, false)
	}
	return out, own
}

// ownOf is what was said by those lines that are a script's own.
func ownOf(t *testing.T, lines []string, own []bool) []string {
	t.Helper()
	said := saidBy(t, scriptOf(lines...))
	var out []string
	for i, line := range lines {
		if !saysSomething(line) {
			continue
		}
		if own[i] {
			out = append(out, said[0])
		}
		said = said[1:]
	}
	if len(said) > 0 {
		t.Fatalf("%q says %q besides", lines, said)
	}
	return out
}

// Lines that ask change nothing, nor do those that say "what" or have no words, wherever they stand.
func TestLinesThatAskChangeNothing(t *testing.T) {
	t.Parallel()
	r := rand.New(rand.NewSource(601))
	between := map[string]func() string{
		"files": func() string { return "files" }, "threads": func() string { return "threads" }, "view": func() string { return "view " + labelIn(pick(r, observers())) },
		"any ask": func() string { return someAsk(r) }, "wrong": func() string { return someWrongLine(r) },
	}
	for _, lines := range promiseScripts(602, 150, (impl.MaxScript-1)/2) {
		if len(scriptOf(lines...)) > impl.MaxLines/3 {
			continue
		}
		plain := saidBy(t, scriptOf(lines...))
		for name, line := range between {
			more, own := woven(lines, line)
			if got := ownOf(t, more, own); !slices.Equal(got, plain) {
				t.Fatalf("%s between: %q says %q, without them %q", name, more, got, plain)
			}
		}
	}
}

// The same question, asked twice, is answered the same.
func TestLinesThatAskTwice(t *testing.T) {
	t.Parallel()
	r := rand.New(rand.NewSource(603))
	for _, lines := range promiseScripts(604, 100, 30) {
		ask := someAsk(r)
		said := saidBy(t, scriptOf(append(slices.Clone(lines), ask, "files", ask, "threads", ask)...))
		if n := len(said); said[n-1] != said[n-3] || said[n-1] != said[n-5] {
			t.Fatalf("%q, asked %q: %q", lines, ask, said[n-5:])
		}
	}
}

// rowOf tells lines of the table apart, and what they say without its numbers.
func rowOf(line string, said string) string {
	words := wordsIn(line)
	row := words[0]
	if row == "sync" && len(words) > 1 {
		words = words[1:]
	}
	if len(words) > 1 && numberForm.MatchString(words[0]) {
		row = words[1]
	}
	head, rest, _ := strings.Cut(said, " ")
	if head == "ok" && rest != "" {
		return row + ": ok and more"
	}
	if head == "no" || head == "not" {
		return row + ": " + said
	}
	return row + ": " + head
}

func wantedRows() []string {
	out := []string{"cat: ok and more", "cat: not 3", "new: ok", "new: no 3", "save: ok", "save: no 5", "save: no 7", "open: ok", "open: no 7", "crash: ok", "crash: no 7", "files: files", "threads: threads", "threads: no 7", "view: view", "view: no 7", "cat: what", "fly: what"}
	for _, word := range stepWords()[1:] {
		out = append(out, word+": not 3", word+": not 4", word+": no 7")
	}
	for _, word := range []string{"make", "queue", "box", "gate", "read", "take", "list"} {
		out = append(out, word+": ok and more")
	}
	for _, word := range []string{"write", "read", "copy", "put", "drop", "raise", "enter", "leave", "list"} {
		out = append(out, word+": ok")
	}
	return append(out, "take: not 6")
}

func TestScriptsByTheDocumentsWords(t *testing.T) {
	t.Parallel()
	met := map[string]int{}
	for i, lines := range promiseScripts(605, 1000, impl.MaxScript) {
		script := scriptOf(lines...)
		said := impl.RunScript(script)
		if want := scriptIn(script); said != want {
			t.Fatalf("script %d, %q: %q, not %q", i, script, said, want)
		}
		answers := strings.Split(said, "\n")
		for _, line := range slices.DeleteFunc(slices.Clone(lines), func(line string) bool { return !saysSomething(line) }) {
			met[rowOf(line, answers[0])]++
			answers = answers[1:]
		}
	}
	for _, row := range wantedRows() {
		if met[row] == 0 {
			t.Errorf("%s was never met: the test says too little", row)
		}
	}
}

// A script with a byte too few, too many or another one is one that the words tell of, too.
func TestScriptsWithOtherBytes(t *testing.T) {
	t.Parallel()
	for _, lines := range [][]string{{"new 2", "1 cat", "sync 1 make 1 1,1001:2", "1 gate 1 1 3 1001", "crash 1 9", "threads", "view 1"}, {" files", "new 1", "1 put 1 x", "save 2", "open"}} {
		byteEdits(scriptOf(lines...), []byte(" \n\t\r\x00019x,:-+~\x7f\xff"), func(script string) {
			if got, want := impl.RunScript(script), scriptIn(script); got != want {
				t.Errorf("%q: %q, not %q", script, got, want)
			}
		})
	}
}

// Bytes of any kind are answered, each line with one line of the forms that the table has.
func TestScriptsOfAnyBytes(t *testing.T) {
	t.Parallel()
	form := regexp.MustCompile(`^(ok( [ -~]+)?|not [3-6]|no [1-7]|what|too long|files( [ -~]+)?|threads [0-9]+( [1-9]=[0-9,:]+)+|view( [0-9]+)*)\z`)
	r := rand.New(rand.NewSource(606))
	words := []string{"1", "2", "0", "cat", "make", "gate", "write", "sync", "new", "save", "open", "crash", "files", "threads", "view", "1,1001:2", "1001", " ", "  ", "\n", "\n", "\n", "\t", "\xff", "x"}
	for range 3000 {
		var script strings.Builder
		for range r.Intn(60) {
			script.WriteString(pick(r, words))
			if r.Intn(2) == 0 {
				script.WriteString(" ")
			}
		}
		if r.Intn(4) > 0 {
			script.WriteString("\n")
		}
		for _, said := range saidBy(t, script.String()) {
			if !form.MatchString(said) {
				t.Errorf("%q says %q", script.String(), said)
			}
		}
		if got, want := impl.RunScript(script.String()), scriptIn(script.String()); got != want {
			t.Errorf("%q: %q, not %q", script.String(), got, want)
		}
	}
	for b := range 256 {
		one := string([]byte{byte(b)})
		for _, script := range []string{one, one + "\n", "new 1\n" + one + "\nfiles\n", fmt.Sprintf("new 1\n1 make 1 1\n1 write 1001 a%sb\n1 read 1001\n", one)} {
			if got, want := impl.RunScript(script), scriptIn(script); got != want {
				t.Errorf("%q: %q, not %q", script, got, want)
			}
		}
	}
}

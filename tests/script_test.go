package tests

import (
	"fmt"
	"slices"
	"strings"
	"testing"

	"loop.example/g00272/impl"
)

func TestConstantsOfTheScript(t *testing.T) {
	if impl.MaxScript != 40 || impl.MaxLines != 4000 {
		t.Error("limits")
	}
}

// yardCases are steps in the yard, for each kind of step with each thing that it can say there.
func yardCases() []turn {
	return []turn{
		{"2 cat", "ok 2001"}, {"3 cat", "ok 3001"}, {"4 cat", "not 3"}, {"9 cat", "not 3"},
		{"2 make 1 1", "ok 2001"}, {"2 make 1005 2", "ok 2001"}, {"1 make 1009 1,1001:2", "ok 1011"}, {"2 make 1002 1", "not 4"}, {"2 make 9 1", "not 4"}, {"2 make 1009 1", "not 4"}, {"2 make 1 3", "not 4"}, {"2 make 1 0", "not 4"}, {"9 make 1 1", "not 3"},
		{"2 queue 1 1", "ok 2001"}, {"2 queue 1004 1", "not 4"}, {"2 queue 1 3", "not 4"}, {"9 queue 1 1", "not 3"},
		{"2 box 1 1", "ok 2001"}, {"2 box 1006 1", "not 4"}, {"2 box 1 3", "not 4"}, {"9 box 1 1", "not 3"},
		{"2 gate 1 1 3 0", "ok 2001"}, {"1 gate 1 1 3 1001", "ok 1011"}, {"2 gate 1 1 3 1001", "not 4"}, {"2 gate 1 3 1 0", "not 4"}, {"2 gate 1 1 0,9999:3 9999", "not 4"}, {"9 gate 1 1 3 0", "not 3"},
		{"2 write 1002 x", "ok"}, {"2 write 1003 x", "not 4"}, {"2 write 1004 x", "not 4"}, {"2 write 9030 x", "not 4"}, {"9 write 1002 x", "not 3"},
		{"2 read 1002", "ok data"}, {"2 read 1008", "ok"}, {"1 read 1003", "ok"}, {"2 read 1003", "not 4"}, {"2 read 1", "not 4"}, {"9 read 1002", "not 3"},
		{"2 copy 1002 1008", "ok"}, {"2 copy 1008 1002", "ok"}, {"2 copy 1003 1008", "not 4"}, {"2 copy 1002 1003", "not 4"}, {"2 copy 1002 1004", "not 4"}, {"2 copy 1004 1002", "not 4"}, {"9 copy 1002 1008", "not 3"},
		{"2 put 1004 x", "ok"}, {"2 put 1010 x", "not 4"}, {"2 put 1002 x", "not 4"}, {"9 put 1004 x", "not 3"},
		{"1 take 1010", "ok item"}, {"2 take 1010", "not 4"}, {"2 take 1004", "not 6"}, {"2 take 1002", "not 4"}, {"9 take 1004", "not 3"},
		{"2 drop 1002", "ok"}, {"2 drop 1009", "ok"}, {"2 drop 1", "not 4"}, {"2 drop 2001", "not 4"}, {"9 drop 1002", "not 3"},
		{"2 raise 2", "ok"}, {"2 raise 1,5:2", "ok"}, {"1 raise 1,1001:3", "ok"}, {"2 raise 1,1001:3", "not 4"}, {"2 raise 0", "not 4"}, {"2 raise 3", "not 4"}, {"9 raise 1", "not 3"},
		{"2 enter 1006", "ok"}, {"2 enter 1007", "not 4"}, {"2 enter 1005", "not 4"}, {"9 enter 1006", "not 3"},
		{"1 leave 1001", "ok"}, {"2 leave 1001", "not 4"}, {"1 leave 9999", "not 4"}, {"9 leave 1001", "not 3"},
		{"2 list 1", "ok 1002 1003 1004 1005 1006 1007 1008 1009 1010"}, {"2 list 1005", "ok"}, {"2 list 1009", "not 4"}, {"2 list 1002", "not 4"}, {"9 list 1", "not 3"},
	}
}

// A step counts, whether it is done or refused, and is lost with what was not synced.
func TestEachStepOfAScript(t *testing.T) {
	for _, x := range yardCases() {
		steps := saidBy(t, scriptOf(append(linesOf(yard()), x.line, "threads")...))
		if last := steps[len(steps)-1]; !strings.HasPrefix(last, fmt.Sprintf("threads %d 1=1", yardSteps+1)) {
			t.Errorf("%s: %s", x.line, last)
		}
		lost := []turn{x, {"crash 0 0", "ok"}, {"threads", "threads 0 1=1 2=1 3=1"}, {"files", "files base"}}
		checkTurns(t, x.line, inYard(lost...)...)
		checkTurns(t, x.line+", nowhere", turn{x.line, "no 7"}, turn{"files", "files"}, turn{"new 1", "ok"}, turn{"threads", "threads 0 1=1"})
	}
}

func TestEachStepOfAScriptSynced(t *testing.T) {
	for _, x := range yardCases() {
		line := "sync " + x.line
		lines := append(linesOf(yard()), line, "crash 0 0", "threads", "files")
		said := saidBy(t, scriptOf(lines...))
		behind := said[len(yard()):]
		if behind[0] != x.said || behind[1] != "ok" || !strings.HasPrefix(behind[2], fmt.Sprintf("threads %d 1=1", yardSteps+1)) || behind[3] != "files base log" {
			t.Errorf("%s: %q", line, behind)
		}
		if got, want := impl.RunScript(scriptOf(lines...)), scriptIn(scriptOf(lines...)); got != want {
			t.Errorf("%s: %q, by the words %q", line, got, want)
		}
		checkTurns(t, line+", nowhere", turn{line, "no 7"}, turn{"files", "files"})
	}
}

func TestStepsOfAScriptLeaveWhatTheyShould(t *testing.T) {
	checkTurns(t, "data", inYard(
		turn{"2 copy 1002 1008", "ok"}, turn{"2 write 1002 ~!", "ok"}, turn{"3 read 1008", "ok data"}, turn{"3 read 1002", "ok ~!"},
		turn{"2 read 1003", "not 4"}, turn{"2 enter 1006", "ok"}, turn{"2 write 1003 secret", "ok"}, turn{"2 read 1003", "ok secret"}, turn{"2 leave 1001", "ok"}, turn{"2 read 1003", "not 4"})...)
	checkTurns(t, "queues", inYard(
		turn{"2 put 1004 a", "ok"}, turn{"3 put 1004 b", "ok"}, turn{"3 take 1004", "ok a"}, turn{"2 put 1004 0", "ok"}, turn{"2 take 1004", "ok b"}, turn{"1 take 1004", "ok 0"}, turn{"1 take 1004", "not 6"})...)
	checkTurns(t, "boxes", inYard(
		turn{"2 box 1005 1", "ok 2001"}, turn{"3 make 2001 1", "ok 3001"}, turn{"2 list 1005", "ok 2001"}, turn{"view 1", "view 1 1002 1004 1005 1006 1007 1008 2001 3001"},
		turn{"1 drop 1005", "ok"}, turn{"view 1", "view 1 1002 1004 1006 1007 1008"}, turn{"2 list 2001", "not 4"}, turn{"1 list 1", "ok 1002 1003 1004 1006 1007 1008 1009 1010"})...)
	checkTurns(t, "views", inYard(
		turn{"view 0", "view"}, turn{"view 3", "view 1 1002 1003 1004 1005 1006 1007 1008 1009 1010"}, turn{"view 1,1001:2", "view 1 1002 1003 1004 1005 1006 1007 1008 1009 1010"},
		turn{"view 1,1001:0", "view"}, turn{"view 2,1001:1", "view 1 1002 1004 1005 1006 1007 1008"}, turn{"view 1,7:3", "view 1 1002 1004 1005 1006 1007 1008"})...)
	checkTurns(t, "threads", inYard(
		turn{"2 raise 1,5:2,9999:0", "not 4"}, turn{"2 raise 1,5:2,9999:2", "ok"}, turn{"3 raise 2", "ok"}, turn{"threads", "threads 15 1=1 2=1,5:2,9999:2 3=2"}, turn{"save", "ok"}, turn{"threads", "threads 15 1=1 2=1,5:2,9999:2 3=2"})...)
}

// What a thread, or a queue, has too much of needs more lines than the yard leaves.
func TestStepsOfAScriptThatAreFull(t *testing.T) {
	turns := []turn{{"new 1", "ok"}}
	for n := range 30 {
		turns = append(turns, turn{"1 make 1 1", fmt.Sprint("ok ", 1001+n)})
	}
	for _, line := range []string{"1 make 1 1", "sync 1 queue 1 1", "1 box 1 1", "1 gate 1 1 1 0", "1 cat"} {
		turns = append(turns, turn{line, "not 5"})
	}
	checkTurns(t, "made", append(turns, turn{"1 make 1 3", "not 4"}, turn{"threads", "threads 36 1=1"})...)
	turns = []turn{{"new 2", "ok"}, {"2 cat", "ok 2001"}, {"2 gate 1 1 3 2001", "ok 2002"}, {"2 gate 1 1 3 0", "ok 2003"}}
	for n := range 10 {
		turns = append(turns, turn{"1 cat", fmt.Sprint("ok ", 1001+n)})
	}
	turns = append(turns, turn{"1 cat", "not 5"}, turn{"1 enter 2002", "not 5"}, turn{"1 enter 2003", "ok"}, turn{"1 leave 1003", "ok"}, turn{"1 enter 2002", "ok"}, turn{"1 cat", "not 5"})
	checkTurns(t, "owned", append(turns, turn{"threads", "threads 19 1=1 2=1"})...)
	turns = []turn{{"new 1", "ok"}, {"1 queue 1 1", "ok 1001"}}
	for range 8 {
		turns = append(turns, turn{"1 put 1001 x", "ok"})
	}
	checkTurns(t, "items", append(turns, turn{"1 put 1001 x", "not 5"}, turn{"1 take 1001", "ok x"}, turn{"sync 1 put 1001 x", "ok"}, turn{"sync 1 put 1001 x", "not 5"}, turn{"threads", "threads 13 1=1"})...)
}

// A step that is refused counts among the steps from then on, also behind a save and a loss of power.
func TestRefusedStepsOfAScriptCount(t *testing.T) {
	checkTurns(t, "refused", turn{"new 2", "ok"}, turn{"threads", "threads 0 1=1 2=1"},
		turn{"1 read 1", "not 4"}, turn{"threads", "threads 1 1=1 2=1"},
		turn{"9 cat", "not 3"}, turn{"threads", "threads 2 1=1 2=1"},
		turn{"1 queue 1 1", "ok 1001"}, turn{"1 take 1001", "not 6"}, turn{"threads", "threads 4 1=1 2=1"},
		turn{"1 read", "what"}, turn{"0 cat", "what"}, turn{"threads", "threads 4 1=1 2=1"},
		turn{"save", "ok"}, turn{"threads", "threads 4 1=1 2=1"},
		turn{"sync 1 read 1", "not 4"}, turn{"1 read 1", "not 4"}, turn{"threads", "threads 6 1=1 2=1"},
		turn{"crash 0 0", "ok"}, turn{"threads", "threads 5 1=1 2=1"})
}

func TestNewLinesOfAScript(t *testing.T) {
	for _, many := range []int64{1, 2, 8, 9} {
		all := "threads 0"
		for id := int64(1); id <= many; id++ {
			all += fmt.Sprintf(" %d=1", id)
		}
		checkTurns(t, "new", turn{fmt.Sprint("new ", many), "ok"}, turn{"threads", all}, turn{"files", "files base"}, turn{"view 1", "view 1"}, turn{"view 0", "view"},
			turn{"new 1", "no 3"}, turn{"new 0", "no 3"}, turn{"threads", all})
	}
	for _, many := range []string{"0", "10", "11", "100", "4294967297", "9999999999"} {
		checkTurns(t, "new of none", turn{"new " + many, "no 3"}, turn{"files", "files"}, turn{"threads", "no 7"}, turn{"new 1", "ok"}, turn{"threads", "threads 0 1=1"})
	}
}

func TestLinesOfAScriptWithoutAJournal(t *testing.T) {
	for _, line := range []string{"save", "save 0", "save 9", "open", "open 0", "open 9", "crash 0 0", "crash 9 9", "threads", "view 1", "view 3,5:0"} {
		checkTurns(t, line, turn{line, "no 7"}, turn{"files", "files"}, turn{line, "no 7"}, turn{"new 1", "ok"})
	}
}

func TestScriptsOfManySizes(t *testing.T) {
	checkSays(t, "none", "", "")
	checkSays(t, "MaxScript", longText("files\n", impl.MaxScript), longText("files\n", impl.MaxScript))
	checkSays(t, "MaxScript without words", longText("\n", impl.MaxScript), "")
	for _, line := range []string{"files\n", "\n", " \n", "new 1\n"} {
		checkSays(t, "one more", longText(line, impl.MaxScript+1), "too long\n")
		checkSays(t, "one more, the last", longText("files\n", impl.MaxScript)+line, "too long\n")
		checkSays(t, "one more, the first", line+longText("files\n", impl.MaxScript), "too long\n")
	}
	blanks := func(size int) string { return "files" + longText(" ", size-len("files\n")) + "\n" }
	checkSays(t, "MaxLines", blanks(impl.MaxLines), "files\n")
	checkSays(t, "a byte more", blanks(impl.MaxLines+1), "too long\n")
	checkSays(t, "MaxLines of blanks", longText(" ", impl.MaxLines-1)+"\n", "")
	checkSays(t, "a blank more", longText(" ", impl.MaxLines)+"\n", "too long\n")
	checkSays(t, "MaxLines of one word", longText("x", impl.MaxLines-1)+"\n", "what\n")
	checkSays(t, "a byte more of one word", longText("x", impl.MaxLines)+"\n", "too long\n")
	checkSays(t, "both at once", longText("files\n", impl.MaxScript-1)+blanks(impl.MaxLines-6*(impl.MaxScript-1)), longText("files\n", impl.MaxScript))
	checkSays(t, "a byte more of both", longText("files\n", impl.MaxScript-1)+blanks(impl.MaxLines-6*(impl.MaxScript-1)+1), "too long\n")
	checkSays(t, "far more", longText("files\n", 100000), "too long\n")
	checkSays(t, "one great line", longText("x", 1000000), "too long\n")
}

func TestScriptsThatAreNotEnded(t *testing.T) {
	for _, script := range []string{"files", " ", "x", "\x00", "\r", "new 1\nfiles", "new 1\n ", "\n\n ", "files\n\r", "files\nfiles\x00", longText("files\n", impl.MaxScript) + " ", longText("files\n", impl.MaxScript-1) + "files", longText(" ", impl.MaxLines)} {
		checkSays(t, "not ended", script, "too long\n")
	}
}

func TestBlanksInAScript(t *testing.T) {
	for _, line := range []string{"", " ", "  ", longText(" ", 200)} {
		checkTurns(t, "no words", turn{line, ""}, turn{"new 1", "ok"}, turn{line, ""}, turn{line, ""}, turn{"1 cat", "ok 1001"}, turn{line, ""})
	}
	for _, line := range []string{" 1 make 1 1", "1 make 1 1 ", " 1 make 1 1 ", "   1 make 1 1   ", "1  make 1 1", "1 make  1 1", "1 make 1  1", "  1   make  1     1 ", longText(" ", 50) + "1 make 1 1" + longText(" ", 50)} {
		checkTurns(t, "blanks", turn{"  new   1 ", "ok"}, turn{line, "ok 1001"}, turn{" sync  " + line, "ok 1002"}, turn{"  view  1  ", "view 1 1001 1002"}, turn{" files ", "files base log"},
			turn{"  threads ", "threads 2 1=1"}, turn{" save  9 ", "ok"}, turn{" open ", "ok"}, turn{" crash  0   0 ", "ok"}, turn{"1 write  1001  x ", "ok"}, turn{" 1 read 1001", "ok x"})
	}
}

// No other byte is a blank, nor is one that stands for more than a byte.
func TestBytesThatAreNoBlanks(t *testing.T) {
	t.Parallel()
	for b := range 256 {
		if b == ' ' || b == '\n' {
			continue
		}
		for _, line := range []string{"files?", "?files", "threads?", "1?cat", "1 cat?", "?1 cat", "1 make 1?1", "1 make 1 1?", "view?1", "view ?1", "new?1", "save?", "?", "??", "crash 1?1", "crash 1 1 ?", "sync?1 cat", "sync 1 cat ?"} {
			line = strings.ReplaceAll(line, "?", string([]byte{byte(b)}))
			script := scriptOf("new 1", line, "threads", "files", "view 1")
			if got, want := impl.RunScript(script), scriptIn(script); got != want {
				t.Errorf("%q says %q, by the words %q", line, got, want)
			}
		}
	}
	for _, bad := range []string{"\t", "\r", "\v", "\f", "\x00", "\u00a0", "\u0085", "\u2003", "\u3000", "\xa0", "\x85"} {
		for _, line := range []string{bad, "files" + bad, bad + "files", "1" + bad + "cat", "1 cat" + bad, "1 cat " + bad, bad + " 1 cat", "view" + bad + "1", "view 1" + bad, "sync" + bad + "1 cat", "1 write 1002" + bad + "x", "1 write 1002 x" + bad, "1 put 1004 " + bad} {
			checkWhat(t, fmt.Sprintf("%q", bad), line)
		}
	}
}

// goodLines are lines of each kind with as many words as it has, in the yard.
func goodLines() []string {
	return []string{"1 cat", "1 make 1 1", "1 queue 1 1", "1 box 1 1", "1 gate 1 1 3 0", "1 write 1002 x", "1 read 1002", "1 copy 1002 1008", "1 put 1004 x", "1 take 1004", "1 drop 1002", "1 raise 1", "1 enter 1006", "1 leave 1001", "1 list 1",
		"sync 1 cat", "sync 1 gate 1 1 3 0", "sync 1 write 1002 x", "new 1", "save 1", "open 1", "crash 1 1", "files", "threads", "view 1"}
}

func TestAWordTooFewOrTooMany(t *testing.T) {
	t.Parallel()
	// Without a word these are other lines.
	stay := []string{"1 cat", "1 gate 1 1 3 0", "1 write 1002 x", "save", "open"}
	for _, good := range goodLines() {
		words := strings.Fields(good)
		for i := range words {
			less := strings.Join(slices.Concat(words[:i], words[i+1:]), " ")
			if less != "" && !slices.Contains(stay, less) {
				checkWhat(t, "a word too few of "+good, less)
			}
		}
		for _, word := range []string{"0", "1", "x", "files", "1,5:2", good} {
			if good != "files" || word != "files" {
				checkWhat(t, "a word behind "+good, good+" "+word)
			}
		}
		for _, word := range []string{"1", "x", "files", "save"} {
			checkWhat(t, "a word ahead of "+good, word+" "+good)
		}
	}
	for _, line := range []string{"files files", "save save", "save 1 1", "open 1 1", "view 1 1", "view", "new", "crash", "crash 1", "crash 1 1 1", "threads 1"} {
		checkWhat(t, "words", line)
	}
}

func TestWordsThatAreNoLines(t *testing.T) {
	for _, line := range []string{"fly", "Files", "FILES", "file", "filess", "thread", "viewl", "news", "saves", "opens", "crashes", "load 1", "quit", "help", "\"files\"", "#", "# files", "//", "-", "--", "ok", "what", "T cat", "T", "I", "1", "1 1", "1 fly", "1 Cat", "1 cats", "1 new 1", "1 save", "1 open", "1 crash 0 0", "1 files", "1 threads", "1 view 1", "1 sync cat", "1 sync 1 cat",
		"cat", "cat 1", "make 1 1", "1 1 cat", "1 2 1 0 0 1 0", "1 seal 1", "1 2", "1 2 1 1", "1 delete 1002", "1 = 1", "files;", "files,threads", "\x00files", "fi\x00les", "\xff", "\xc3\xa4"} {
		checkWhat(t, "no line", line)
	}
}

func TestSyncAheadOfWrongWords(t *testing.T) {
	for _, behind := range []string{"", " ", " sync", " sync 1 cat", " sync sync 1 cat", " new 1", " save", " save 1", " open", " open 1", " crash 0 0", " files", " threads", " view 1", " fly", " 1", " cat", " 1 cat 1", " 1 make 1", " 0 cat", " 10 cat", " 1 make 1 4", " 1 write 1002", " 1 leave 0"} {
		checkWhat(t, "sync", "sync"+behind)
	}
	for _, line := range []string{"Sync 1 cat", "sync1 cat", "1 cat sync", "sync, 1 cat", "1 sync cat", "new sync 1", "async 1 cat"} {
		checkWhat(t, "sync elsewhere", line)
	}
}

// notNumbers are words that other readers of numbers may take.
func notNumbers() []string {
	return slices.DeleteFunc(noNumbers(), func(s string) bool {
		return s == "" || strings.ContainsAny(s, " \n") || numberForm.MatchString(s) || len(s) > 100
	})
}

func TestWordsOfAScriptThatAreNoNumbers(t *testing.T) {
	t.Parallel()
	for _, place := range []string{"? cat", "sync ? cat", "? make 1 1", "1 make ? 1", "1 queue ? 1", "1 box ? 1", "1 gate ? 1 3 0", "1 gate 1 1 3 ?", "1 write ? x", "1 read ?", "1 copy ? 1008", "1 copy 1002 ?", "1 put ? x", "1 take ?", "1 drop ?", "1 enter ?", "1 leave ?", "1 list ?", "new ?", "save ?", "open ?", "crash ? 1", "crash 1 ?"} {
		for _, word := range notNumbers() {
			checkWhat(t, place, strings.Replace(place, "?", word, 1))
		}
	}
}

func TestNumbersOfAScriptAtTheirEdges(t *testing.T) {
	t.Parallel()
	for _, place := range []string{"1 make ? 1", "1 queue ? 1", "1 box ? 1", "1 gate ? 1 3 0", "1 write ? x", "1 read ?", "1 copy ? 1008", "1 copy 1002 ?", "1 put ? x", "1 take ?", "1 drop ?", "1 enter ?", "1 list ?"} {
		for _, word := range []string{"0", "9031", "10000", "4294967297", "9999999999", "10000000000", "18446744073709551617"} {
			checkWhat(t, place, strings.Replace(place, "?", word, 1))
		}
		for _, word := range []string{"2", "1000", "2001", "9000", "9030"} {
			checkTurns(t, place, inYard(turn{strings.Replace(place, "?", word, 1), "not 4"})...)
		}
	}
	for _, word := range []string{"0", "10", "11", "4294967297", "9999999999", "10000000000"} {
		checkWhat(t, "thread", word+" cat")
		checkWhat(t, "thread", "sync "+word+" list 1")
	}
	for _, word := range []string{"0", "10000", "9999999999", "10000000000"} {
		checkWhat(t, "category", "1 leave "+word)
	}
	for _, word := range []string{"10000", "9999999999", "10000000000"} {
		checkWhat(t, "category", "1 gate 1 1 3 "+word)
	}
	checkTurns(t, "categories", inYard(turn{"1 gate 1 1 3 0", "ok 1011"}, turn{"1 gate 1 1 3 1", "not 4"}, turn{"1 gate 1 1 3 9999", "not 4"}, turn{"1 leave 1", "not 4"}, turn{"1 leave 9999", "not 4"})...)
	for _, word := range []string{"10000000000", "99999999999", "9223372036854775808"} {
		for _, place := range []string{"new ?", "save ?", "open ?", "crash ? 0", "crash 0 ?"} {
			checkWhat(t, place, strings.Replace(place, "?", word, 1))
		}
	}
	checkTurns(t, "great numbers", inYard(turn{"save 9999999999", "ok"}, turn{"open 9999999999", "ok"}, turn{"1 cat", "ok 1011"}, turn{"crash 9999999999 9999999999", "ok"}, turn{"threads", "threads 13 1=1 2=1 3=1"}, turn{"new 9999999999", "no 3"})...)
}

// Labels that are none say "what" in each place, also where the line would be refused anyway.
func TestWordsOfAScriptThatAreNoLabels(t *testing.T) {
	t.Parallel()
	words := slices.DeleteFunc(noLabels(), func(s string) bool { return s == "" || strings.ContainsAny(s, " \n") || len(s) > 200 })
	for _, place := range []string{"1 make 1 ?", "9 make 1002 ?", "1 queue 1 ?", "1 box 1 ?", "1 gate 1 ? 3 0", "1 gate 1 1 ? 0", "2 gate 1 1 ? 1001", "1 raise ?", "sync 1 make 1 ?", "sync 1 gate 1 1 ? 0", "sync 1 raise ?", "view ?"} {
		for _, word := range words {
			checkWhat(t, place, strings.Replace(place, "?", word, 1))
		}
	}
}

func TestLabelsOfAScriptAtTheirEdges(t *testing.T) {
	most := labelIn(run(1, 9988, impl.MaxCats, 2))
	checkTurns(t, "the longest", turn{"new 1", "ok"}, turn{"1 make 1 " + most, "ok 1001"}, turn{"1 queue 1 " + most, "ok 1002"}, turn{"1 box 1 " + most, "ok 1003"}, turn{"1 gate 1 " + most + " " + most + " 0", "ok 1004"},
		turn{"view 1", "view 1"}, turn{"view " + most, "view 1 1001 1002 1003 1004"}, turn{"1 raise " + most, "ok"}, turn{"threads", "threads 5 1=" + most})
	checkTurns(t, "the shortest", turn{"new 1", "ok"}, turn{"1 make 1 0", "not 4"}, turn{"1 make 1 2", "ok 1001"}, turn{"1 make 1 3", "not 4"}, turn{"1 gate 1 1 0 0", "ok 1002"}, turn{"1 gate 1 1 3 0", "ok 1003"}, turn{"view 0", "view"}, turn{"view 3", "view 1 1001 1002 1003"},
		turn{"view 3,1:0", "view"}, turn{"view 3,9999:2", "view 1 1001 1002 1003"}, turn{"view 1,1:0", "view"})
}

func TestDataOfAScriptAtItsEdges(t *testing.T) {
	for _, word := range []string{"x", "~", "!", "0", "files", "1,5:2", "\"", "\\n", "%d", "=", longText("x", impl.MaxData), longText("~", impl.MaxData)} {
		checkTurns(t, "data", inYard(turn{"2 write 1008 " + word, "ok"}, turn{"2 read 1008", "ok " + word}, turn{"2 put 1004 " + word, "ok"}, turn{"sync 2 take 1004", "ok " + word}, turn{"crash 0 0", "ok"}, turn{"2 read 1008", "ok " + word}, turn{"save", "ok"}, turn{"2 read 1008", "ok " + word})...)
	}
	for _, word := range []string{longText("x", impl.MaxData+1), longText("x", 1000), "\x1f", "a\x7f", "\x80", "\xff", "a\tb", "\r", "\x00", "\u00e4"} {
		checkWhat(t, "data", "2 write 1008 "+word)
		checkWhat(t, "data", "2 put 1004 "+word)
		checkWhat(t, "data, synced", "sync 2 put 1004 "+word)
	}
}

package tests

import (
	"math/rand"
	"slices"
	"sync"
	"testing"

	"loop.example/g00272/impl"
)

// memoryScripts are scripts of all kinds, those that are too long among them.
func memoryScripts(seed int64) []string {
	r := rand.New(rand.NewSource(seed))
	out := []string{"", "\n", "files\n", "files", "fly\n", scriptOf(richScript()...), scriptOf(linesOf(yard())...), longText("files\n", impl.MaxScript+1), longText(" ", impl.MaxLines) + "\n"}
	for range 40 {
		out = append(out, scriptOf(someScript(r, impl.MaxScript)...))
	}
	return out
}

func TestScriptsAreNotWrittenInto(t *testing.T) {
	for _, plain := range memoryScripts(620) {
		script, room := over(plain)
		first := impl.RunScript(script)
		second := impl.RunScript(script)
		if script != plain || string(room) != plain {
			t.Fatalf("%q was written into: %q", plain, script)
		}
		if first != "" && script != "" && meet(textRoom(script), textRoom(first)) {
			t.Errorf("%q: what was said lies in it", plain)
		}
		clear(room)
		if want := scriptIn(plain); first != want || second != want {
			t.Errorf("%q changed with the script: %q, %q, not %q", plain, first, second, want)
		}
	}
}

// A short word that is told must not lie in the script from which it came.
func TestWordsThatAScriptTellsAreNewMemory(t *testing.T) {
	for _, line := range []string{"fly", "files", "view 1", "1 cat", longText("x", 1000)} {
		script, room := over(line + "\n")
		said := impl.RunScript(script)
		if meet(textRoom(script), textRoom(said)) {
			t.Errorf("%q: %q lies in it", line, said)
		}
		clear(room)
		if said != scriptIn(line+"\n") {
			t.Errorf("%q changed with the script: %q", line, said)
		}
	}
}

// The same script says the same each time, whatever was said between: no disk is kept from one to the next.
func TestTheSameScriptTwice(t *testing.T) {
	scripts := memoryScripts(621)
	var wants []string
	for _, script := range scripts {
		want := impl.RunScript(script)
		if again := impl.RunScript(script); again != want {
			t.Errorf("%q says %q, again %q", script, want, again)
		}
		wants = append(wants, want)
	}
	for i, script := range slices.Backward(scripts) {
		if got := impl.RunScript(script); got != wants[i] {
			t.Errorf("%q says %q, behind others %q", script, wants[i], got)
		}
	}
	checkSays(t, "nothing is left", "files\nthreads\n", "files\nno 7\n")
}

func TestScriptsBesideEachOther(t *testing.T) {
	scripts := memoryScripts(622)
	var wants []string
	for _, script := range scripts {
		wants = append(wants, impl.RunScript(script))
	}
	var all sync.WaitGroup
	for side := range 8 {
		all.Go(func() {
			for i := range scripts {
				at := (i + 5*side) % len(scripts)
				if got := impl.RunScript(scripts[at]); got != wants[at] {
					t.Errorf("beside others: %q says %q, alone %q", scripts[at], got, wants[at])
				}
			}
		})
	}
	all.Wait()
}

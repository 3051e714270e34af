package tests

import (
	"fmt"
	"slices"
	"testing"

	"loop.example/g00272/impl"
)

// threeMade has three steps of which none is safe.
func threeMade(behind ...turn) []turn {
	return slices.Concat([]turn{{"new 1", "ok"}, {"1 make 1 1", "ok 1001"}, {"1 make 1 1", "ok 1002"}, {"1 make 1 1", "ok 1003"}}, behind)
}

// leftOf is what lines ask when so many of the three steps are left.
func leftOf(many int64, files string) []turn {
	return []turn{{"threads", fmt.Sprintf("threads %d 1=1", many)}, {"view 1", "view 1" + behindBlanks(rising(1001, many))}, {"files", files},
		{"1 make 1 1", fmt.Sprint("ok ", 1001+many)}, {"threads", fmt.Sprintf("threads %d 1=1", many+1)}}
}

func TestCrashLinesKeepTheFirstOps(t *testing.T) {
	const all = 1000
	for _, x := range []struct {
		keep, torn, left int64
		files            string
	}{
		{0, 0, 0, "files base"}, {0, all, 0, "files base"}, {0, 9999999999, 0, "files base"},
		{1, all, 1, "files base log"}, {2, all, 2, "files base log"}, {3, all, 3, "files base log"},
		{4, all, 3, "files base log"}, {200, all, 3, "files base log"}, {201, all, 3, "files base log"}, {9999999999, 9999999999, 3, "files base log"},
		// Of none of its bytes there is nothing in the log that would not count.
		{1, 0, 0, "files base log"}, {2, 0, 1, "files base log"}, {3, 0, 2, "files base log"}, {9, 0, 2, "files base log"},
		// A piece of a frame does not count, and opening saves what does.
		{1, 1, 0, "files base"}, {2, 5, 1, "files base"}, {3, 8, 2, "files base"}, {7, 9, 2, "files base"},
	} {
		line := fmt.Sprintf("crash %d %d", x.keep, x.torn)
		checkTurns(t, line, threeMade(slices.Concat([]turn{{line, "ok"}}, leftOf(x.left, x.files))...)...)
		// What is left is safe, so that another loss takes nothing more.
		checkTurns(t, line+" twice", threeMade(slices.Concat([]turn{{line, "ok"}, {line, "ok"}, {"crash 0 0", "ok"}, {"crash 9 0", "ok"}}, leftOf(x.left, x.files))...)...)
	}
}

func TestCrashLinesTearTheLastOp(t *testing.T) {
	size := int64(len(logIn(3, making(1, impl.SyMake, 1, label(1)))))
	for torn := range size + 2 {
		left, files := int64(2), "files base"
		if torn == 0 || torn >= size {
			files = "files base log"
		}
		if torn >= size {
			left = 3
		}
		for _, keep := range []int64{3, 4, 50} {
			line := fmt.Sprintf("crash %d %d", keep, torn)
			checkTurns(t, line, threeMade(slices.Concat([]turn{{line, "ok"}}, leftOf(left, files))...)...)
		}
	}
}

func TestCrashLinesLeaveWhatIsSafe(t *testing.T) {
	checkTurns(t, "synced", turn{"new 1", "ok"}, turn{"1 make 1 1", "ok 1001"}, turn{"sync 1 make 1 1", "ok 1002"}, turn{"1 make 1 1", "ok 1003"}, turn{"crash 0 0", "ok"}, turn{"view 1", "view 1 1001 1002"}, turn{"1 make 1 1", "ok 1003"}, turn{"crash 1 99", "ok"}, turn{"view 1", "view 1 1001 1002 1003"})
	checkTurns(t, "saved", threeMade(turn{"save", "ok"}, turn{"crash 0 0", "ok"}, turn{"view 1", "view 1 1001 1002 1003"}, turn{"files", "files base"})...)
	checkTurns(t, "new", turn{"new 2", "ok"}, turn{"crash 0 0", "ok"}, turn{"threads", "threads 0 1=1 2=1"}, turn{"files", "files base"})
	// To open and to ask make nothing safe.
	checkTurns(t, "opened", threeMade(turn{"open", "ok"}, turn{"files", "files base log"}, turn{"threads", "threads 3 1=1"}, turn{"view 1", "view 1 1001 1002 1003"}, turn{"crash 0 0", "ok"}, turn{"view 1", "view 1"})...)
}

// saveAt is a save that would make so many steps with all power.
func saveAt(power int, steps int) turn {
	if power < steps {
		return turn{fmt.Sprint("save ", power), "no 5"}
	}
	return turn{fmt.Sprint("save ", power), "ok"}
}

func TestSaveLinesAtEachPower(t *testing.T) {
	// Sync, append, rename, Sync, and log removed, Sync.
	files := []string{"base log", "base log", "base base.new log", "base log", "base log", "base", "base", "base"}
	for power, names := range files {
		save := saveAt(power, 6)
		checkTurns(t, save.line, threeMade(slices.Concat([]turn{save}, leftOf(3, "files "+names))...)...)
		left := int64(3)
		// The first step of a save makes safe what was logged; without it all is lost.
		lost := "files base log"
		switch {
		case power == 0:
			left, lost = 0, "files base"
		case power >= 6:
			lost = "files base"
		}
		checkTurns(t, save.line+", power lost", threeMade(slices.Concat([]turn{save, {"crash 0 0", "ok"}}, leftOf(left, lost))...)...)
		checkTurns(t, save.line+", once more", threeMade(slices.Concat([]turn{save, {"save", "ok"}}, leftOf(3, "files base"))...)...)
	}
}

// What a torn save leaves as base.new is gone ahead of the next one, which has two steps more.
func TestSaveLinesBehindATornOne(t *testing.T) {
	torn := []turn{{"save 2", "no 5"}, {"crash 1 9", "ok"}, {"files", "files base base.new log"}, {"threads", "threads 3 1=1"}}
	files := []string{"base base.new log", "base base.new log", "base log", "base log", "base base.new log", "base log", "base log", "base", "base", "base"}
	for power, names := range files {
		save := saveAt(power, 8)
		checkTurns(t, save.line, threeMade(slices.Concat(torn, []turn{save}, leftOf(3, "files "+names))...)...)
		checkTurns(t, save.line+", power lost", threeMade(slices.Concat(torn, []turn{save, {"crash 0 0", "ok"}, {"threads", "threads 3 1=1"}, {"save", "ok"}}, leftOf(3, "files base"))...)...)
	}
	checkTurns(t, "renamed and kept", threeMade(slices.Concat([]turn{{"save 3", "no 5"}, {"crash 2 0", "ok"}}, leftOf(3, "files base log"))...)...)
	checkTurns(t, "renamed and lost", threeMade(slices.Concat([]turn{{"save 3", "no 5"}, {"crash 1 0", "ok"}}, leftOf(3, "files base base.new log"))...)...)
	checkTurns(t, "log removed and lost", threeMade(slices.Concat([]turn{{"save 5", "no 5"}, {"files", "files base"}, {"crash 0 0", "ok"}}, leftOf(3, "files base log"))...)...)
	checkTurns(t, "log removed and kept", threeMade(slices.Concat([]turn{{"save 5", "no 5"}, {"crash 1 0", "ok"}}, leftOf(3, "files base"))...)...)
	checkTurns(t, "no log", turn{"new 1", "ok"}, turn{"save 3", "no 5"}, turn{"save 4", "ok"}, turn{"save 5", "ok"}, turn{"files", "files base"})
}

// Behind every line of a script the log is good, so that to open makes no steps and no power is too little.
func TestOpenLinesAtEachPower(t *testing.T) {
	for _, line := range []string{"open", "open 0", "open 1", "open 2", "open 6", "open 9999999999"} {
		checkTurns(t, line, threeMade(slices.Concat([]turn{{line, "ok"}}, leftOf(3, "files base log"))...)...)
		checkTurns(t, line, threeMade(slices.Concat([]turn{{"crash 2 5", "ok"}, {line, "ok"}}, leftOf(1, "files base"))...)...)
		checkTurns(t, line, threeMade(slices.Concat([]turn{{"save 2", "no 5"}, {line, "ok"}}, leftOf(3, "files base base.new log"))...)...)
	}
}

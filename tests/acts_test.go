package tests

import (
	"fmt"
	"testing"

	"loop.example/g00272/impl"
)

// checkPowers holds an act, at each power, against the disks that its steps leave one by one: left has the disk ahead of all steps first.
func checkPowers(t *testing.T, what string, d impl.Disk, a impl.Act, left ...impl.Disk) {
	t.Helper()
	all := int64(len(left) - 1)
	for power := int64(0); power <= all+2; power++ {
		name := fmt.Sprint(what, ", power ", power)
		if power < all {
			checkAct(t, name, d, powered(a, power), impl.StPower, left[power])
		} else {
			checkAct(t, name, d, powered(a, power), impl.StOk, left[all])
		}
	}
	for _, power := range []int64{-1, -2, lowest, highest} {
		checkAct(t, what, d, powered(a, power), impl.StOk, left[all])
	}
}

// stepsOf are the disks that ops leave one by one; the op without a Kind is a Sync.
func stepsOf(d impl.Disk, ops ...impl.DOp) []impl.Disk {
	out := []impl.Disk{d}
	for _, op := range ops {
		if op.Kind == 0 {
			d = synced(d.Live...)
		} else {
			d = doneOnDisk(d, op)
		}
		out = append(out, d)
	}
	return out
}

func TestStepsOfANewJournal(t *testing.T) {
	sync := impl.DOp{}
	base := baseIn(0, newKernel(3))
	save := []impl.DOp{sync, put("base.new", base), move("base.new", "base"), sync}
	checkPowers(t, "on nothing", impl.Disk{}, starting(3), stepsOf(impl.Disk{}, save...)...)
	d := with(synced(file("a", "x"), file("base.new", "rest"), file("log", "old")), put("z", "y"), put("a", "1"))
	ops := append([]impl.DOp{remove("a"), remove("base.new"), remove("log"), remove("z")}, save...)
	checkPowers(t, "on other files", d, starting(3), stepsOf(d, ops...)...)
	// A base that was there is not there any more.
	d = with(synced(file("base", "old")), move("base", "log"))
	checkPowers(t, "on a base that is gone", d, starting(3), stepsOf(d, append([]impl.DOp{remove("log")}, save...)...)...)

	many := synced(manyFiles(impl.MaxFiles, "")...)
	left, code := impl.JournalDo(many, starting(3))
	if code != impl.StOk {
		t.Fatal(code)
	}
	checkDisk(t, "on MaxFiles files", left, synced(file("base", base)))
	for power := int64(0); power <= impl.MaxFiles+4; power++ {
		want := int64(impl.StPower)
		if power == impl.MaxFiles+4 {
			want = impl.StOk
		}
		if then, code := impl.JournalDo(many, powered(starting(3), power)); code != want || power <= impl.MaxFiles && len(then.Live) != impl.MaxFiles-int(power) {
			t.Errorf("power %d: %d, %d files", power, code, len(then.Live))
		}
	}
}

func TestHowManyThreadsANewJournalHas(t *testing.T) {
	d := with(synced(file("a", "x")), put("log", "old"))
	for many := int64(1); many <= impl.MaxThread; many++ {
		checkAct(t, "right", d, starting(many), impl.StOk, synced(file("base", baseIn(0, newKernel(many)))))
	}
	for _, many := range []int64{0, -1, impl.MaxThread + 1, lowest, highest} {
		checkRefused(t, "wrong", d, starting(many), impl.StForm)
		checkRefused(t, "wrong, no power", d, powered(starting(many), 0), impl.StForm)
	}
	for _, base := range []string{"", "?", baseIn(0, newKernel(2))} {
		checkRefused(t, "there is a base", journalOn(base), starting(2), impl.StForm)
		checkRefused(t, "there is a base, no power", journalOn(base), powered(starting(2), 0), impl.StForm)
	}
}

func TestStepsOfALog(t *testing.T) {
	sync := impl.DOp{}
	s := journalStep(0)
	d := journalOn(baseIn(7, newKernel(2)))
	frame := logIn(8, s)
	checkPowers(t, "a log", d, logging(s), stepsOf(d, put("log", frame))...)
	checkPowers(t, "a log, synced", d, syncing(s), stepsOf(d, put("log", frame), sync)...)
	e := with(journalOn(baseIn(6, newKernel(2)), logIn(6, journalStep(5))), put("log", logIn(7, simple(9, impl.SyCat, none))), put("a", "1"))
	checkPowers(t, "behind others", e, logging(s), stepsOf(e, put("log", frame))...)
	checkPowers(t, "behind others, synced", e, syncing(s), stepsOf(e, put("log", frame), sync)...)
	for _, wrong := range []impl.Step{{}, {Thread: 1}, simple(0, impl.SyCat, none), simple(1, impl.SyCat, 1), giving(1, impl.SyWrite, 1, "\n"), raising(1, label(4))} {
		checkRefused(t, "a wrong step", d, logging(wrong), impl.StForm)
		checkRefused(t, "a wrong step, no power", d, powered(syncing(wrong), 0), impl.StForm)
	}
}

// savedOps are the steps of a save, with base.new and log or without.
func savedOps(base string, fresh bool, log bool) []impl.DOp {
	sync := impl.DOp{}
	ops := []impl.DOp{sync}
	if fresh {
		ops = append(ops, remove("base.new"), sync)
	}
	ops = append(ops, put("base.new", base), move("base.new", "base"), sync)
	if log {
		ops = append(ops, remove("log"), sync)
	}
	return ops
}

func TestStepsOfASave(t *testing.T) {
	k := newKernel(2)
	after, _, _ := impl.Done(k, journalStep(0))
	old, base, frame := baseIn(4, k), baseIn(5, after), logIn(5, journalStep(0))
	d := journalOn(old)
	checkPowers(t, "no log", d, saving(), stepsOf(d, savedOps(old, false, false)...)...)
	d = journalOn(old, "")
	checkPowers(t, "an empty log", d, saving(), stepsOf(d, savedOps(old, false, true)...)...)
	d = with(journalOn(old, frame), put("a", "1"))
	checkPowers(t, "a log", d, saving(), stepsOf(d, savedOps(base, false, true)...)...)
	d = with(journalOn(old), put("log", frame), put("base.new", "rest"))
	checkPowers(t, "a log and a new base", d, saving(), stepsOf(d, savedOps(base, true, true)...)...)
	d = with(journalOn(old), put("base.new", base))
	checkPowers(t, "a new base that is none", d, saving(), stepsOf(d, savedOps(old, true, false)...)...)
}

func TestStepsOfAnOpen(t *testing.T) {
	k := newKernel(2)
	after, _, _ := impl.Done(k, journalStep(0))
	old, base, frame := baseIn(4, k), baseIn(5, after), logIn(5, journalStep(0))
	d := with(journalOn(old, frame), put("base.new", "rest"))
	checkPowers(t, "a good log", d, opening(), d)
	d = journalOn(old)
	checkPowers(t, "no log", d, opening(), d)
	d = with(journalOn(old, frame), put("log", frame[:9]))
	checkPowers(t, "a torn log", d, opening(), stepsOf(d, savedOps(base, false, true)...)...)
	d = with(journalOn(old, frame, "?"), put("base.new", "rest"))
	checkPowers(t, "a torn log and a new base", d, opening(), stepsOf(d, savedOps(base, true, true)...)...)
	d = journalOn(old, "?", frame)
	checkPowers(t, "a log that is torn at its front", d, opening(), stepsOf(d, savedOps(old, false, true)...)...)
}

// A crash is no step: all power is for what is opened behind it.
func TestStepsOfACrash(t *testing.T) {
	k := newKernel(2)
	after, _, _ := impl.Done(k, journalStep(0))
	old, base, frame := baseIn(4, k), baseIn(5, after), logIn(5, journalStep(0))
	next := logIn(6, journalStep(1))
	d := with(journalOn(old), put("log", frame), put("log", next), put("base.new", "rest"))
	files := func(more ...impl.File) impl.Disk {
		w := drawerOf(journalOn(old).Live)
		for _, f := range more {
			w[f.Name] = f.Data
		}
		return synced(w.files()...)
	}
	checkPowers(t, "none", d, crashing(0), files())
	checkPowers(t, "the first", d, crashing(99, 0), files(file("log", frame)))
	checkPowers(t, "both", d, crashing(99, 0, 1), files(file("log", frame+next)))
	checkPowers(t, "all", d, crashing(2, 0, 1, 2), files(file("base.new", "re"), file("log", frame+next)))
	left := files(file("log", next))
	checkPowers(t, "the second", d, crashing(99, 1), stepsOf(left, savedOps(old, false, true)...)...)
	left = files(file("log", frame+next[:5]))
	checkPowers(t, "the second, torn", d, crashing(5, 0, 1), stepsOf(left, savedOps(base, false, true)...)...)
	left = files(file("log", ""))
	checkPowers(t, "nothing of the first", d, crashing(0, 0), left)
	left = files(file("base.new", "rest"), file("log", next))
	checkPowers(t, "the second and the rest", d, crashing(4, 1, 2), stepsOf(left, savedOps(old, true, true)...)...)
}

func TestCrashesThatAreRefused(t *testing.T) {
	k := newKernel(2)
	journal := with(journalOn(baseIn(0, k)), put("log", logIn(1, journalStep(0))), put("log", "?"))
	full := with(synced(full(file("base", baseIn(0, k)))...), remove("!"), put("a", "x"))
	nothing, broken := with(impl.Disk{}, put("a", "x"), put("a", "y")), with(journalOn("?"), put("a", "x"), put("a", "y"))
	for name, d := range map[string]impl.Disk{"a journal": journal, "nothing": nothing, "broken": broken} {
		for _, keep := range [][]int64{{0, 0}, {1, 0}, {-1}, {2}, {0, 1, 2}, {lowest}, {highest}} {
			for _, power := range []int64{-1, 0, 9} {
				checkRefused(t, name, d, powered(crashing(0, keep...), power), impl.StForm)
			}
		}
		for _, torn := range []int64{-1, lowest} {
			checkRefused(t, name, d, crashing(torn), impl.StForm)
			checkRefused(t, name, d, crashing(torn, 0, 1), impl.StForm)
		}
	}
	checkRefused(t, "too many bytes at the end", full, crashing(1, 1), impl.StForm)
	checkAct(t, "as many as there may be", full, crashing(0, 1), impl.StOk, synced(append([]impl.File{full.Safe[0], file("a", "")}, full.Safe[1:]...)...))
	// The base is asked for behind the crash: the disk is as that left it.
	checkAct(t, "nothing", nothing, crashing(9, 0), impl.StNone, synced(file("a", "x")))
	checkAct(t, "broken", broken, crashing(0, 0, 1), impl.StBad, synced(file("a", "xx"), file("base", "?"), file("z", "")))
	lost := with(synced(file("a", "x")), put("base", baseIn(0, k)))
	checkView(t, "ahead of it", lost, k, 0)
	checkAct(t, "a base that is lost", lost, crashing(9), impl.StNone, synced(file("a", "x")))
	checkAct(t, "a base that is torn", lost, crashing(9, 0), impl.StBad, synced(file("a", "x"), file("base", baseIn(0, k)[:9])))
	checkAct(t, "a base that is kept", lost, crashing(99, 0), impl.StOk, impl.Sync(lost))
	found := with(synced(file("base", baseIn(0, k))), remove("base"))
	checkNoView(t, "ahead of it", found, impl.StNone)
	checkAct(t, "a base that comes back", found, crashing(0), impl.StOk, synced(file("base", baseIn(0, k))))
	checkAct(t, "a base that is gone", found, crashing(0, 0), impl.StNone, impl.Disk{})
}

// fullOps has all ops but so many.
func fullOps(d impl.Disk, but int) impl.Disk {
	for len(d.Ops) < impl.MaxOps-but {
		d = doneOnDisk(d, put("a", ""))
	}
	return d
}

func TestStepsThatAreRefusedByTheirOps(t *testing.T) {
	s := journalStep(0)
	d := journalOn(baseIn(0, newKernel(2)))
	checkRefused(t, "log", fullOps(d, 0), logging(s), impl.StFull)
	checkRefused(t, "log, synced", fullOps(d, 0), syncing(s), impl.StFull)
	checkRefused(t, "log, power for one", fullOps(d, 0), powered(syncing(s), 1), impl.StFull)
	checkAct(t, "log, no power", fullOps(d, 0), powered(syncing(s), 0), impl.StPower, fullOps(d, 0))
	checkAct(t, "the last op", fullOps(d, 1), logging(s), impl.StOk, with(fullOps(d, 1), put("log", logIn(1, s))))
	checkAct(t, "the last op, synced", fullOps(d, 1), syncing(s), impl.StOk, impl.Sync(with(fullOps(d, 1), put("log", logIn(1, s)))))
	// A save syncs first, and so makes room.
	checkAct(t, "save", fullOps(d, 0), saving(), impl.StOk, d)

	other := synced(file("a", "x"), file("b", "y"))
	checkRefused(t, "new", fullOps(other, 0), starting(2), impl.StFull)
	checkRefused(t, "new, an op too few", fullOps(other, 1), starting(2), impl.StFull)
	checkRefused(t, "new, power for two", fullOps(other, 1), powered(starting(2), 2), impl.StFull)
	checkAct(t, "new, power for one", fullOps(other, 1), powered(starting(2), 1), impl.StPower, with(fullOps(other, 1), remove("a")))
	checkAct(t, "new, just the ops", fullOps(other, 2), starting(2), impl.StOk, synced(file("base", baseIn(0, newKernel(2)))))
	checkAct(t, "new, no files left", fullOps(with(synced(file("b", "y")), remove("b")), 1), starting(2), impl.StOk, synced(file("base", baseIn(0, newKernel(2)))))
}

func TestStepsThatAreRefusedByBytes(t *testing.T) {
	s := journalStep(0)
	k := newKernel(2)
	base, frame := baseIn(0, k), logIn(1, s)
	after, _, _ := impl.Done(k, s)
	// room leaves so many bytes free, beside what is given.
	room := func(free int, files ...impl.File) impl.Disk {
		all := full(files...)
		all[0].Data = all[0].Data[free:]
		return synced(all...)
	}
	d := room(len(frame), file("base", base))
	checkAct(t, "log, just the bytes", d, logging(s), impl.StOk, with(d, put("log", frame)))
	checkRefused(t, "log, a byte too few", room(len(frame)-1, file("base", base)), logging(s), impl.StFull)

	saved := baseIn(1, after)
	d = with(room(len(saved), file("base", base), file("log", frame)), put("base", ""))
	checkAct(t, "save, just the bytes", d, saving(), impl.StOk, synced(d.Live[0], file("base", saved)))
	d = with(room(len(saved)-1, file("base", base), file("log", frame)), put("base", ""))
	checkRefused(t, "save, a byte too few", d, saving(), impl.StFull)
	// As it was is ahead of the Sync, too.
	checkRefused(t, "save, power for all", d, powered(saving(), 9), impl.StFull)
	checkRefused(t, "save, power for two", d, powered(saving(), 2), impl.StFull)
	checkAct(t, "save, power for one", d, powered(saving(), 1), impl.StPower, impl.Sync(d))

	torn := with(room(len(saved)-2, file("base", base), file("log", frame)), put("log", "?"), put("base", ""))
	checkRefused(t, "open, a byte too few", torn, opening(), impl.StFull)
	checkAct(t, "crash, a byte too few", torn, crashing(1, 0, 1), impl.StFull, impl.Sync(torn))
	checkAct(t, "crash, a byte too few, power for all", torn, powered(crashing(1, 0), 9), impl.StFull, impl.Sync(torn))
	checkAct(t, "crash, nothing to do", torn, crashing(0, 0), impl.StOk, synced(torn.Safe...))
	// What base.new has is free once it is gone, but only behind a Sync.
	fresh := room(0, file("base", base), file("base.new", saved), file("log", frame))
	checkAct(t, "a new base that is gone", fresh, saving(), impl.StOk, synced(fresh.Live[0], file("base", saved)))
}

func TestStepsThatAreRefusedByFiles(t *testing.T) {
	s := journalStep(0)
	base := baseIn(0, newKernel(2))
	files := func(many int, more ...impl.File) impl.Disk {
		return synced(append(more, manyFiles(many-len(more), "")...)...)
	}
	d := files(impl.MaxFiles, file("base", base))
	checkRefused(t, "log", d, logging(s), impl.StFull)
	checkRefused(t, "save", d, saving(), impl.StFull)
	d = files(impl.MaxFiles-1, file("base", base))
	checkAct(t, "log", d, logging(s), impl.StOk, with(d, put("log", logIn(1, s))))
	checkAct(t, "save", d, saving(), impl.StOk, d)
	all := synced(append(manyFiles(impl.MaxFiles-2, ""), file("log", "?"))...)
	all = synced(append([]impl.File{file("base", base)}, all.Live...)...)
	checkRefused(t, "open", all, opening(), impl.StFull)
	checkRefused(t, "crash", all, crashing(0), impl.StFull)
	fresh := files(impl.MaxFiles, file("base", base), file("base.new", "rest"))
	checkAct(t, "a new base that is gone", fresh, saving(), impl.StOk, files(impl.MaxFiles-1, file("base", base)))
}

// Of several codes that would fit the first is told.
func TestOrderOfTheCodesOfAnAct(t *testing.T) {
	wrong, right := impl.Step{}, journalStep(0)
	broken, none, torn := fullOps(journalOn("?", "?"), 0), fullOps(synced(file("a", "x")), 0), fullOps(journalOn(baseIn(0, newKernel(2)), "?"), 0)
	end := fullOps(journalOn(baseIn(topCount, newKernel(2)), "?"), 0)
	good := fullOps(journalOn(baseIn(0, newKernel(2))), 0)
	for _, power := range []int64{-1, 0, 1} {
		for _, a := range []impl.Act{logging(wrong), logging(right), saving(), opening()} {
			checkRefused(t, "no base", none, powered(a, power), impl.StNone)
			checkRefused(t, "broken", broken, powered(a, power), impl.StBad)
		}
		checkRefused(t, "a wrong step on a torn log", torn, powered(syncing(wrong), power), impl.StForm)
		checkRefused(t, "the last number on a torn log", end, powered(syncing(right), power), impl.StForm)
		checkRefused(t, "a torn log on a full disk", torn, powered(syncing(right), power), impl.StTorn)
		checkRefused(t, "a save of a torn log", torn, powered(saving(), power), impl.StTorn)
		checkRefused(t, "a wrong step on a full disk", good, powered(syncing(wrong), power), impl.StForm)
		checkRefused(t, "new, where there is a base", good, powered(starting(2), power), impl.StForm)
		checkRefused(t, "new, of no threads", none, powered(starting(0), power), impl.StForm)
		checkRefused(t, "a crash that is none", broken, powered(crashing(0, 1, 0), power), impl.StForm)
	}
	checkAct(t, "no power on a full disk", good, powered(logging(right), 0), impl.StPower, good)
	checkRefused(t, "a full disk", good, powered(logging(right), 1), impl.StFull)
	checkAct(t, "no power on a full disk, new", none, powered(starting(2), 0), impl.StPower, none)
	checkRefused(t, "a full disk, new", none, powered(starting(2), 1), impl.StFull)
}

// What a Kind does not name may be anything.
func TestWhatAnActDoesNotName(t *testing.T) {
	d := with(journalOn(baseIn(3, newKernel(2)), logIn(4, journalStep(0))), put("log", logIn(5, journalStep(1))))
	noisy := func(a impl.Act) impl.Act {
		switch a.Kind {
		case impl.AcLog:
			a.Many, a.Keep, a.Torn = -5, []int64{9, 3}, -1
		case impl.AcCrash:
			a.Many, a.Step, a.Sync = 77, impl.Step{Thread: -1}, true
		default:
			a.Many, a.Step, a.Sync, a.Keep, a.Torn = 2, impl.Step{Thread: -1}, true, []int64{9, 3}, -1
		}
		return a
	}
	for _, a := range []impl.Act{logging(journalStep(2)), syncing(journalStep(2)), saving(), opening(), crashing(5, 0)} {
		want, code := impl.JournalDo(d, a)
		checkAct(t, fmt.Sprint("kind ", a.Kind), d, noisy(a), code, want)
	}
	want, _ := impl.JournalDo(impl.Disk{}, starting(2))
	checkAct(t, "new", impl.Disk{}, noisy(starting(2)), impl.StOk, want)
}

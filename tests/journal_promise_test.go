package tests

import (
	"fmt"
	"math/rand"
	"slices"
	"testing"

	"loop.example/g00272/impl"
)

// A history is a journal with what it was told: the steps that were logged and not lost, and how many of them must stay.
type history struct {
	disk   impl.Disk
	start  impl.Kernel
	logged []impl.Step
	sure   int
}

func newHistory(t *testing.T, d impl.Disk) history {
	t.Helper()
	return history{disk: played(t, d, starting(2)), start: newKernel(2)}
}

// after is the history behind an act that is no crash: the first step of a save is a Sync, and the append of a log is its first one.
func (h history) after(t *testing.T, a impl.Act) (history, int64) {
	t.Helper()
	then, code := impl.JournalDo(h.disk, a)
	if !impl.DiskOk(then) {
		t.Fatalf("act %d, power %d leaves %s", a.Kind, a.Power, diskText(then))
	}
	synced := !sameDisk(then, h.disk)
	switch {
	case code != impl.StOk && code != impl.StPower:
		checkDisk(t, fmt.Sprint("refused, ", code), then, h.disk)
		return h, code
	case a.Kind == impl.AcLog && !(code == impl.StPower && a.Power == 0):
		h.logged = append(slices.Clone(h.logged), a.Step)
		synced = a.Sync && code == impl.StOk
	}
	if synced {
		h.sure = len(h.logged)
	}
	h.disk = then
	return h, code
}

// crashed asks that a beginning of the logged steps is left, with all that must stay; what is lost is out of the history.
func (h history) crashed(t *testing.T, power int64, torn int64, keep ...int64) (history, int64) {
	t.Helper()
	left, code := impl.JournalDo(h.disk, powered(crashing(torn, keep...), power))
	if code != impl.StOk && code != impl.StPower || !impl.DiskOk(left) {
		t.Fatalf("keep %v, torn %d, power %d: %d of %s", keep, torn, power, code, diskText(h.disk))
	}
	h.disk = left
	n := h.checkBeginning(t, fmt.Sprintf("keep %v, torn %d, power %d", keep, torn, power))
	h.logged, h.sure = h.logged[:n], n
	return h, code
}

func (h history) checkBeginning(t *testing.T, what string) int {
	t.Helper()
	k, n, code := impl.JournalView(h.disk)
	if code != impl.StOk || n < int64(h.sure) || n > int64(len(h.logged)) {
		t.Fatalf("%s: %d, %d steps are left, of %d, of which %d must stay: %s", what, code, n, len(h.logged), h.sure, diskText(h.disk))
	}
	if want := kernelsOf(h.start, h.logged[:n])[n]; kernelText(k) != kernelText(want) {
		t.Fatalf("%s: behind %d steps there is\n%s, not\n%s", what, n, kernelText(k), kernelText(want))
	}
	return int(n)
}

// someTorn are places within what the last op that is kept would write, at its ends, and behind it.
func someTorn(d impl.Disk, keep []int64) []int64 {
	if len(keep) == 0 || d.Ops[keep[len(keep)-1]].Data == "" {
		return []int64{0, highest}
	}
	size := int64(len(d.Ops[keep[len(keep)-1]].Data))
	return []int64{0, 1, 8, 9, size - 1, size, highest}
}

// eachCrash loses power with each choice of what is kept, and hands on what is left.
func (h history) eachCrash(t *testing.T, power int64, hand func(history, int64)) {
	t.Helper()
	if len(h.disk.Ops) > 8 {
		t.Fatalf("too many ops for each choice: %s", diskText(h.disk))
	}
	eachKeep(len(h.disk.Ops), func(keep []int64) {
		for _, torn := range someTorn(h.disk, keep) {
			left, code := h.crashed(t, power, torn, keep...)
			hand(left, code)
		}
	})
}

// checkGoesOn asks that behind a crash steps are logged and saved as ever.
func (h history) checkGoesOn(t *testing.T) {
	t.Helper()
	for _, a := range []impl.Act{logging(journalStep(8)), saving(), syncing(journalStep(9))} {
		then, code := h.after(t, a)
		if code != impl.StOk {
			t.Fatalf("behind a crash: act %d: %d, %s", a.Kind, code, diskText(h.disk))
		}
		h = then
		if h.checkBeginning(t, "behind a crash") != len(h.logged) {
			t.Fatal("a step is lost that nothing was lost of")
		}
	}
}

// journals are the acts behind AcNew, with few enough ops at each time.
func journals() map[string][]impl.Act {
	s := journalStep
	return map[string][]impl.Act{
		"logs":            {logging(s(0)), logging(s(1)), logging(s(2)), logging(s(3))},
		"logs, one sync":  {logging(s(0)), syncing(s(1)), logging(s(2)), logging(s(3))},
		"syncs":           {syncing(s(0)), syncing(s(1)), syncing(s(2))},
		"logs and a save": {logging(s(0)), logging(s(1)), saving(), logging(s(2)), saving()},
		"saves":           {saving(), syncing(s(0)), logging(s(1)), saving(), saving(), logging(s(2))},
		"refused steps":   {logging(s(0)), logging(s(4)), syncing(s(4)), logging(s(4)), saving(), logging(s(1))},
		"steps alike":     {logging(simple(1, impl.SyCat, none)), logging(simple(1, impl.SyCat, none)), saving(), logging(simple(1, impl.SyCat, none)), syncing(simple(1, impl.SyCat, none))},
		"opened":          {logging(s(0)), opening(), syncing(s(1)), opening(), saving(), opening()},
		"saves and more":  {syncing(s(0)), logging(s(1)), saving(), logging(s(2)), syncing(s(3)), saving(), logging(s(5))},
	}
}

// Power is lost between any two steps of any act; what is not synced then is kept in part.
func TestPowerIsLostBetweenAnyTwoSteps(t *testing.T) {
	t.Parallel()
	for name, acts := range journals() {
		t.Run(name, func(t *testing.T) {
			t.Parallel()
			h := newHistory(t, impl.Disk{})
			for _, a := range acts {
				for power, code := int64(0), int64(impl.StPower); code == impl.StPower; power++ {
					var cut history
					cut, code = h.after(t, powered(a, power))
					cut.checkBeginning(t, "without a crash")
					cut.eachCrash(t, always, func(left history, code int64) {
						if code != impl.StOk {
							t.Fatal(code)
						}
					})
				}
				then, code := h.after(t, a)
				if code != impl.StOk {
					t.Fatal(a.Kind, code)
				}
				h = then
			}
		})
	}
}

// Power is lost once more while what was left is opened, and once more then.
func TestPowerIsLostAgainBehindACrash(t *testing.T) {
	t.Parallel()
	acts := []impl.Act{syncing(journalStep(0)), logging(journalStep(1)), logging(journalStep(2))}
	h := newHistory(t, impl.Disk{})
	for _, a := range acts {
		h, _ = h.after(t, a)
	}
	cut := 0
	for power := int64(0); power < 8; power++ {
		h.eachCrash(t, power, func(left history, code int64) {
			if code == impl.StPower {
				cut++
			}
			for again := int64(-1); again < 7; again++ {
				left.eachCrash(t, again, func(left history, code int64) {
					if code == impl.StOk {
						left.checkGoesOn(t)
						return
					}
					left.eachCrash(t, always, func(left history, code int64) {})
				})
			}
		})
	}
	if cut < 30 {
		t.Error("too few crashes were cut off", cut)
	}
}

// Files that lie about are nothing to the kernel, not even those of a save that was cut off.
func TestPowerIsLostBesideOtherFiles(t *testing.T) {
	t.Parallel()
	h := newHistory(t, with(synced(file("a", "x"), file("log", "old")), put("base.new", "older")))
	for _, s := range journalSteps()[:2] {
		h, _ = h.after(t, logging(s))
	}
	rests := []impl.DOp{put("base.new", "rest"), put("base.new", baseIn(9, newKernel(3))), put("base.new", baseIn(0, newKernel(2))[:20]), put("aa", "x"), put("log.new", "?")}
	for _, rest := range rests {
		d, code := impl.Do(h.disk, rest)
		if code != impl.DkOk {
			t.Fatal(code)
		}
		beside := history{disk: d, start: h.start, logged: h.logged, sure: h.sure}
		for _, ahead := range []impl.Act{logging(journalStep(2)), syncing(journalStep(2))} {
			then, _ := beside.after(t, ahead)
			for power, code := int64(0), int64(impl.StPower); code == impl.StPower; power++ {
				var cut history
				cut, code = then.after(t, powered(saving(), power))
				cut.eachCrash(t, always, func(left history, code int64) { left.checkGoesOn(t) })
				cut.eachCrash(t, 1, func(left history, code int64) { left.eachCrash(t, always, func(history, int64) {}) })
			}
		}
	}
}

// Until the new kernel is there, there is none; nothing old is taken for its log.
func TestPowerIsLostWhileAJournalIsNew(t *testing.T) {
	t.Parallel()
	old := logIn(1, journalStep(0))
	for name, d := range map[string]impl.Disk{
		"nothing":    {},
		"an old log": synced(file("log", old)),
		"files":      with(synced(file("a", "x"), file("log", "")), put("base.new", baseIn(7, newKernel(5))), put("log", old)),
		"old base":   with(synced(file("base", baseIn(0, newKernel(3)))), move("base", "old")),
	} {
		for power, code := int64(0), int64(impl.StPower); code == impl.StPower; power++ {
			var cut impl.Disk
			cut, code = impl.JournalDo(d, powered(starting(2), power))
			eachKeep(len(cut.Ops), func(keep []int64) {
				for _, torn := range someTorn(cut, keep) {
					left, _ := impl.JournalDo(cut, crashing(torn, keep...))
					k, n, seen := impl.JournalView(left)
					isNew := seen == impl.StOk && n == 0 && kernelText(k) == kernelText(newKernel(2))
					isOld := name == "old base" && seen == impl.StOk && n == 0 && kernelText(k) == kernelText(newKernel(3))
					if !isNew && (code == impl.StOk || seen != impl.StNone && !isOld) {
						t.Errorf("%s, power %d, keep %v, torn %d: %d, number %d\n%s", name, power, keep, torn, seen, n, kernelText(k))
					}
				}
			})
		}
	}
}

// Long journals of any acts: held against the words, act by act, and against what was logged.
func TestManyActsByTheDocumentsWords(t *testing.T) {
	t.Parallel()
	var codes [8]int
	for seed := range 250 {
		r := rand.New(rand.NewSource(int64(200 + seed)))
		h := newHistory(t, impl.Disk{})
		for range 40 {
			a := someAct(r, h.disk)
			then, code := impl.JournalDo(h.disk, a)
			want, wantCode, _ := actIn(h.disk, a)
			if code != wantCode || !sameDisk(then, want) {
				t.Fatalf("seed %d: act %d, power %d, keep %v, torn %d: %d, not %d: %s\nnot %s", seed, a.Kind, a.Power, a.Keep, a.Torn, code, wantCode, diskText(then), diskText(want))
			}
			codes[code]++
			if a.Kind != impl.AcCrash {
				h, _ = h.after(t, a)
			} else if code == impl.StForm {
				checkDisk(t, "refused", then, h.disk)
			} else {
				h, _ = h.crashed(t, a.Power, a.Torn, a.Keep...)
			}
			h.checkBeginning(t, "in between")
		}
	}
	for _, code := range []int{impl.StOk, impl.StForm, impl.StPower, impl.StTorn} {
		if codes[code] < 50 {
			t.Error("code", code, codes[code])
		}
	}
}

// someDiskFor is a right disk, with a journal or what looks like one.
func someDiskFor(r *rand.Rand) impl.Disk {
	k := pick(r, []impl.Kernel{newKernel(2), smallKernel(), newKernel(9)})
	number := pick(r, []int64{0, 1, 5, topCount - 1, topCount})
	d := journalOn(pick(r, []string{baseIn(number, k), baseIn(number, k), baseIn(number, k), "", "?", baseIn(number, k) + "?"}))
	if r.Intn(6) == 0 {
		d = someDisk(r, 6)
	}
	for range r.Intn(7) {
		s := journalStep(r.Intn(20))
		op := pick(r, []impl.DOp{put("log", logIn(number+r.Int63n(4), s)), put("log", logIn(number+1, s)), put("log", ""), put("log", "?"), put("base.new", "rest"), put("base.new", baseIn(number, k)),
			remove("a"), move("z", "log"), move("base", "z"), move("base.new", "base"), move("log", "a"), remove("log")})
		if codeOnDisk(d, op) == impl.DkOk {
			d = doneOnDisk(d, op)
		}
	}
	if r.Intn(3) == 0 {
		d = fullOps(d, r.Intn(4))
	}
	return d
}

func TestActsOnAnyDiskByTheDocumentsWords(t *testing.T) {
	t.Parallel()
	r := rand.New(rand.NewSource(500))
	var codes [8]int
	for range 6000 {
		d := someDiskFor(r)
		a := someAct(r, d)
		then, code := impl.JournalDo(d, a)
		want, wantCode, _ := actIn(d, a)
		if code != wantCode || !sameDisk(then, want) || !impl.DiskOk(then) {
			t.Fatalf("act %d, power %d on %s: %d, not %d: %s\nnot %s", a.Kind, a.Power, diskText(d), code, wantCode, diskText(then), diskText(want))
		}
		codes[code]++
		s, seen := stateIn(d)
		if k, n, c := impl.JournalView(d); c != seen || n != s.number || kernelText(k) != kernelText(s.kernel) {
			t.Fatalf("the view of %s: %d, number %d", diskText(d), c, n)
		}
	}
	for code, many := range codes {
		if code != impl.StDisk && many < 20 {
			t.Error("code", code, many)
		}
	}
}

func TestActsInTwoPieces(t *testing.T) {
	t.Parallel()
	r := rand.New(rand.NewSource(501))
	for range 60 {
		d := pick(r, []impl.Disk{{}, someDiskFor(r)})
		var list []impl.Act
		now, codes := d, []int64(nil)
		for range r.Intn(25) {
			a := someAct(r, now)
			then, code := impl.JournalDo(now, a)
			now, list, codes = then, append(list, a), append(codes, code)
		}
		all, told := impl.JournalPlay(d, list)
		checkDisk(t, "one by one", all, now)
		if !slices.Equal(told, codes) {
			t.Error(told, codes)
		}
		for cut := range len(list) + 1 {
			half, first := impl.JournalPlay(d, list[:cut])
			whole, second := impl.JournalPlay(half, list[cut:])
			checkDisk(t, "in two pieces", whole, all)
			if !slices.Equal(append(first, second...), told) {
				t.Error(cut, first, second, told)
			}
		}
	}
}

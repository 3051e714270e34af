package tests

import (
	"maps"
	"math/rand"
	"slices"
	"testing"

	"loop.example/g00272/impl"
)

// promiseDisks are right disks of all kinds.
func promiseDisks(seed int64, many int) []impl.Disk {
	r := rand.New(rand.NewSource(seed))
	var out []impl.Disk
	right := rightDisks()
	for _, name := range slices.Sorted(maps.Keys(right)) {
		out = append(out, right[name])
	}
	for range many {
		out = append(out, someDisk(r, 12))
	}
	return out
}

func TestAllKeptIsWhatWasSeen(t *testing.T) {
	for _, d := range promiseDisks(170, 2000) {
		all := rising(0, int64(len(d.Ops)))
		whole := int64(impl.MaxBytes)
		if len(all) > 0 {
			whole = int64(len(d.Ops[len(all)-1].Data))
		}
		for _, torn := range []int64{whole, whole + 1, highest} {
			left, ok := impl.Crash(d, all, torn)
			if !ok {
				t.Errorf("torn %d: no crash of %s", torn, diskText(d))
			}
			checkDisk(t, "all kept", left, synced(d.Live...))
		}
	}
}

func TestNoneKeptIsWhatWasSynced(t *testing.T) {
	for _, d := range promiseDisks(171, 2000) {
		for _, torn := range []int64{0, 1, highest} {
			left, ok := impl.Crash(d, nil, torn)
			if !ok {
				t.Errorf("torn %d: no crash of %s", torn, diskText(d))
			}
			checkDisk(t, "none kept", left, synced(d.Safe...))
		}
	}
}

// What is synced stays, whatever is lost behind that.
func TestWhatWasSyncedStays(t *testing.T) {
	for _, d := range promiseDisks(172, 500) {
		s := impl.Sync(d)
		then, code := impl.Do(s, put("new", ""))
		if code != impl.DkOk {
			continue
		}
		left, ok := impl.Crash(then, nil, 0)
		if !ok {
			t.Error("no crash")
		}
		checkDisk(t, "behind a sync", left, synced(d.Live...))
	}
}

func TestWhatIsDoneIsSeen(t *testing.T) {
	r := rand.New(rand.NewSource(173))
	var codes [5]int
	for _, d := range promiseDisks(174, 1000) {
		for range 8 {
			op := someOp(r)
			if r.Intn(6) == 0 {
				op = []impl.DOp{{}, put("", "x"), move("a", ""), remove(""), put("a", longText("x", impl.MaxBytes)), {Kind: impl.DkRemove, Name: "a", Data: "x"}}[r.Intn(6)]
			}
			then, code := impl.Do(d, op)
			if want := codeOnDisk(d, op); code != want {
				t.Fatalf("%v on %s: %d, not %d", op, diskText(d), code, want)
			}
			codes[code]++
			if !impl.DiskOk(then) {
				t.Fatalf("%v leaves %s", op, diskText(then))
			}
			if code != impl.DkOk {
				checkDisk(t, "refused", then, d)
				continue
			}
			checkDisk(t, "done", then, doneOnDisk(d, op))
			checkSeen(t, d, op, then)
		}
	}
	for code, many := range codes {
		if (many == 0) != (code == impl.DkDisk) {
			t.Error("code", code, many)
		}
	}
}

// checkSeen asks through ReadFile alone.
func checkSeen(t *testing.T, d impl.Disk, op impl.DOp, then impl.Disk) {
	t.Helper()
	was, _ := impl.ReadFile(d, op.Name)
	now, there := impl.ReadFile(then, op.Name)
	moved, movedThere := impl.ReadFile(then, op.To)
	switch {
	case op.Kind == impl.DkAppend && (!there || now != was+op.Data):
		t.Errorf("%v on %s is not seen", op, diskText(d))
	case op.Kind == impl.DkRename && (!movedThere || moved != was || there != (op.Name == op.To)):
		t.Errorf("%v on %s is not seen", op, diskText(d))
	case op.Kind == impl.DkRemove && there:
		t.Errorf("%v on %s is not seen", op, diskText(d))
	}
	for _, name := range []string{"a", "b", "f001", "!", "z"} {
		if name == op.Name || name == op.To {
			continue
		}
		ahead, aheadThere := impl.ReadFile(d, name)
		if behind, behindThere := impl.ReadFile(then, name); ahead != behind || aheadThere != behindThere {
			t.Errorf("%v changes %q", op, name)
		}
	}
}

func TestCrashesByTheDocumentsWords(t *testing.T) {
	t.Parallel()
	r := rand.New(rand.NewSource(175))
	for range 150 {
		d := someDisk(r, 9)
		eachKeep(len(d.Ops), func(keep []int64) {
			torn := pick(r, []int64{0, 1, 2, 8, 9, 10, highest})
			want, wantOk := crashOnDisk(d, keep, torn)
			left, ok := impl.Crash(d, keep, torn)
			if ok != wantOk || ok && !impl.DiskOk(left) {
				t.Fatalf("keep %v, torn %d: %v of %s", keep, torn, ok, diskText(d))
			}
			checkDisk(t, "crash", left, want)
		})
	}
	for _, d := range promiseDisks(176, 100) {
		for range 30 {
			keep := slices.DeleteFunc(rising(-1, int64(len(d.Ops))+2), func(int64) bool { return r.Intn(3) > 0 })
			if r.Intn(4) == 0 {
				r.Shuffle(len(keep), func(i, j int) { keep[i], keep[j] = keep[j], keep[i] })
			}
			torn := pick(r, []int64{-1, 0, 1, 9, highest})
			want, wantOk := crashOnDisk(d, keep, torn)
			if left, ok := impl.Crash(d, keep, torn); ok != wantOk || !sameDisk(left, want) {
				t.Fatalf("keep %v, torn %d: %v %s, not %s", keep, torn, ok, diskText(left), diskText(want))
			}
		}
	}
}

// Names are few, so that the new one of one file is another file.
func TestAFileThatIsReplacedIsTheOldOneOrTheNewOne(t *testing.T) {
	t.Parallel()
	r := rand.New(rand.NewSource(177))
	replaced := 0
	for _, d := range promiseDisks(178, 600) {
		d = impl.Sync(d)
		for _, name := range []string{"a", "b", "c", "f001", "!", "none"} {
			if drawerOf(d.Live).has(name + ".new") {
				continue
			}
			text := pick(r, []string{"", "n", "new text", longText("n", 5000)})
			then, code := impl.Replace(d, name, text)
			if code != impl.DkOk {
				checkDisk(t, "refused", then, d)
				continue
			}
			replaced++
			if now, ok := impl.ReadFile(then, name); !ok || now != text || !impl.DiskOk(then) {
				t.Fatalf("%q is not replaced: %s", name, diskText(then))
			}
			checkOldOrNew(t, d, then, name, text)
		}
	}
	if replaced < 1000 {
		t.Error(replaced)
	}
}

func checkOldOrNew(t *testing.T, d impl.Disk, then impl.Disk, name string, text string) {
	t.Helper()
	old, wasThere := impl.ReadFile(d, name)
	eachKeep(len(then.Ops), func(keep []int64) {
		for _, torn := range []int64{0, 1, int64(len(text)), highest} {
			left, ok := impl.Crash(then, keep, torn)
			if !ok {
				t.Fatalf("keep %v: no crash of %s", keep, diskText(then))
			}
			now, there := impl.ReadFile(left, name)
			if !(there && now == text) && !(there == wasThere && now == old) {
				t.Fatalf("keep %v, torn %d: %q is %.60q, neither %.60q nor %.60q", keep, torn, name, now, old, text)
			}
			others := func(d impl.Disk) []impl.File {
				return slices.DeleteFunc(slices.Clone(d.Live), func(f impl.File) bool { return f.Name == name || f.Name == name+".new" })
			}
			if !slices.Equal(others(left), others(d)) {
				t.Fatalf("keep %v: another file is changed: %s", keep, diskText(left))
			}
		}
	})
}

// Replace is three Do, one behind the other.
func TestReplaceByTheDocumentsWords(t *testing.T) {
	r := rand.New(rand.NewSource(179))
	for _, d := range promiseDisks(180, 1500) {
		name := pick(r, append(someNames(), "", "!", "f000", longText("n", 96), longText("n", 97)))
		text := pick(r, []string{"", "x", longText("y", impl.MaxBytes/2), longText("y", impl.MaxBytes+1)})
		var ops []impl.DOp
		if drawerOf(d.Live).has(name + ".new") {
			ops = append(ops, remove(name+".new"))
		}
		want, wantCode := d, int64(impl.DkOk)
		for _, op := range append(ops, put(name+".new", text), move(name+".new", name)) {
			if wantCode = codeOnDisk(want, op); wantCode != impl.DkOk {
				want = d
				break
			}
			want = doneOnDisk(want, op)
		}
		then, code := impl.Replace(d, name, text)
		if code != wantCode {
			t.Errorf("%q on %s: %d, not %d", name, diskText(d), code, wantCode)
		}
		checkDisk(t, "replaced", then, want)
	}
}

package tests

import (
	"testing"

	"loop.example/g00272/impl"
)

func TestConstantsOfDisks(t *testing.T) {
	if impl.MaxFiles != 60 || impl.MaxBytes != 200000 || impl.MaxOps != 200 {
		t.Error(impl.MaxFiles, impl.MaxBytes, impl.MaxOps)
	}
	if impl.DkAppend != 1 || impl.DkRename != 2 || impl.DkRemove != 3 {
		t.Error(impl.DkAppend, impl.DkRename, impl.DkRemove)
	}
	if impl.DkOk != 0 || impl.DkDisk != 1 || impl.DkForm != 2 || impl.DkNone != 3 || impl.DkFull != 4 {
		t.Error(impl.DkOk, impl.DkDisk, impl.DkForm, impl.DkNone, impl.DkFull)
	}
}

func TestRightDisks(t *testing.T) {
	for name, d := range rightDisks() {
		if !impl.DiskOk(d) {
			t.Errorf("%s: not right: %s", name, diskText(d))
		}
		checkDisk(t, name+", synced", impl.Sync(d), synced(d.Live...))
		for _, f := range d.Live {
			if text, ok := impl.ReadFile(d, f.Name); !ok || text != f.Data {
				t.Errorf("%s: %q has %.60q %v", name, f.Name, text, ok)
			}
		}
		for _, none := range []string{"", "none", "F000", "a\x00", longText("n", 101)} {
			if text, ok := impl.ReadFile(d, none); ok || text != "" {
				t.Errorf("%s: %q has %.60q %v", name, none, text, ok)
			}
		}
	}
}

// checkNoDisk asks for the fixed answers of all functions to a disk that is not right.
func checkNoDisk(t *testing.T, name string, d impl.Disk) {
	t.Helper()
	if impl.DiskOk(d) {
		t.Errorf("%s: right: %s", name, diskText(d))
	}
	for _, op := range []impl.DOp{{}, put("a", "x"), put("new", ""), move("a", "b"), move("none", "b"), remove("a"), remove("")} {
		if then, code := impl.Do(d, op); code != impl.DkDisk || !isNoDisk(then) {
			t.Errorf("%s: Do of %v: %d, %s", name, op, code, diskText(then))
		}
	}
	if then := impl.Sync(d); !isNoDisk(then) {
		t.Errorf("%s: Sync: %s", name, diskText(then))
	}
	for _, keep := range [][]int64{nil, {0}, {1, 0}, {-1}} {
		if then, ok := impl.Crash(d, keep, 0); ok || !isNoDisk(then) {
			t.Errorf("%s: Crash: %v, %s", name, ok, diskText(then))
		}
	}
	for _, file := range []string{"", "a", "b", "!", "f001"} {
		if text, ok := impl.ReadFile(d, file); ok || text != "" {
			t.Errorf("%s: ReadFile of %q: %v, %.60q", name, file, ok, text)
		}
		if then, code := impl.Replace(d, file, "x"); code != impl.DkDisk || !isNoDisk(then) {
			t.Errorf("%s: Replace: %d, %s", name, code, diskText(then))
		}
	}
}

func TestDisksThatAreNotRight(t *testing.T) {
	for name, d := range wrongDisks() {
		checkNoDisk(t, name, d)
	}
}

func TestWhatIsDoneStepByStep(t *testing.T) {
	var d impl.Disk
	for i, c := range []struct {
		op   impl.DOp
		want []impl.File
	}{
		{put("b", "one"), []impl.File{file("b", "one")}},
		{put("b", " two"), []impl.File{file("b", "one two")}},
		{put("a", ""), []impl.File{file("a", ""), file("b", "one two")}},
		{put("a", ""), []impl.File{file("a", ""), file("b", "one two")}},
		{move("b", "c"), []impl.File{file("a", ""), file("c", "one two")}},
		{move("c", "c"), []impl.File{file("a", ""), file("c", "one two")}},
		{move("c", "a"), []impl.File{file("a", "one two")}},
		{put("c", "\x00\n\xff"), []impl.File{file("a", "one two"), file("c", "\x00\n\xff")}},
		{move("a", "d"), []impl.File{file("c", "\x00\n\xff"), file("d", "one two")}},
		{remove("c"), []impl.File{file("d", "one two")}},
		{put("c", "again"), []impl.File{file("c", "again"), file("d", "one two")}},
		{remove("d"), []impl.File{file("c", "again")}},
		{remove("c"), nil},
	} {
		then, code := impl.Do(d, c.op)
		want := impl.Disk{Live: c.want, Ops: append(d.Ops[:i:i], c.op)}
		if code != impl.DkOk || !impl.DiskOk(then) {
			t.Fatal(i, code)
		}
		checkDisk(t, "done", then, want)
		d = then
	}
}

func checkDo(t *testing.T, name string, d impl.Disk, op impl.DOp, want int64) {
	t.Helper()
	then, code := impl.Do(d, op)
	if code != want || codeOnDisk(d, op) != want {
		t.Errorf("%s: %d, by the words %d, not %d", name, code, codeOnDisk(d, op), want)
		return
	}
	if code != impl.DkOk {
		checkDisk(t, name, then, d)
		return
	}
	checkDisk(t, name, then, doneOnDisk(d, op))
}

func TestOpsOfNoForm(t *testing.T) {
	disks := []impl.Disk{{}, synced(file("a", "x")), opsOn(synced(file("a", "x")), impl.MaxOps), synced(full()...), synced(manyFiles(impl.MaxFiles, "")...)}
	for name, op := range wrongOps() {
		for _, d := range disks {
			checkDo(t, name, d, op, impl.DkForm)
		}
	}
}

func TestOpsOnFilesThatAreNotThere(t *testing.T) {
	gone := with(synced(file("a", "x")), remove("a"))
	for _, op := range []impl.DOp{move("a", "b"), move("a", "a"), move("b", "a"), remove("a"), remove("A"), move(longText("n", 100), "a")} {
		checkDo(t, "nothing", impl.Disk{}, op, impl.DkNone)
		checkDo(t, "gone", gone, op, impl.DkNone)
		// Safe is not seen.
		checkDo(t, "gone, all ops", opsOn(gone, impl.MaxOps), op, impl.DkNone)
	}
	checkDo(t, "renamed", with(synced(file("a", "x")), move("a", "b")), remove("a"), impl.DkNone)
	checkDo(t, "renamed", with(synced(file("a", "x")), move("a", "b")), remove("b"), impl.DkOk)
}

func TestTheLastOpThatThereMayBe(t *testing.T) {
	d := opsOn(synced(file("a", "x")), impl.MaxOps-1)
	e := opsOn(synced(file("a", "x")), impl.MaxOps)
	for _, op := range []impl.DOp{put("a", "y"), put("a", ""), put("b", ""), move("a", "b"), move("a", "a"), remove("a")} {
		checkDo(t, "the last", d, op, impl.DkOk)
		checkDo(t, "one more", e, op, impl.DkFull)
		checkDo(t, "behind a sync", impl.Sync(e), op, impl.DkOk)
	}
}

func TestTheLastFileThatThereMayBe(t *testing.T) {
	d := synced(manyFiles(impl.MaxFiles-1, "x")...)
	e := with(d, put("z", ""))
	checkDo(t, "the last", d, put("a", ""), impl.DkOk)
	checkDo(t, "one more", e, put("a", ""), impl.DkFull)
	checkDo(t, "one more, with data", e, put("zz", "x"), impl.DkFull)
	checkDo(t, "to one that is there", e, put("f000", "x"), impl.DkOk)
	checkDo(t, "another name", e, move("z", "y"), impl.DkOk)
	checkDo(t, "one less", with(e, remove("f007")), put("a", ""), impl.DkOk)
	checkDo(t, "one less by a rename", with(e, move("f008", "f009")), put("a", ""), impl.DkOk)
}

func TestTheLastByteThatThereMayBe(t *testing.T) {
	d := synced(full(file("a", "x"))...)
	checkDo(t, "one more", d, put("a", "y"), impl.DkFull)
	checkDo(t, "one more in a new file", d, put("b", "y"), impl.DkFull)
	checkDo(t, "many more", d, put("b", longText("y", 5*impl.MaxBytes)), impl.DkFull)
	checkDo(t, "none more", d, put("a", ""), impl.DkOk)
	checkDo(t, "none more in a new file", d, put("b", ""), impl.DkOk)
	checkDo(t, "another name", d, move("!", "b"), impl.DkOk)
	checkDo(t, "one for one", with(d, remove("a")), put("b", "y"), impl.DkOk)
	checkDo(t, "two for one", with(d, remove("a")), put("b", "yy"), impl.DkFull)
	checkDo(t, "onto the long one", with(d, move("a", "!")), put("b", longText("y", impl.MaxBytes-1)), impl.DkOk)
	checkDo(t, "onto the long one, one more", with(d, move("a", "!")), put("b", longText("y", impl.MaxBytes)), impl.DkFull)
	checkDo(t, "all at once", impl.Disk{}, put("a", longText("y", impl.MaxBytes)), impl.DkOk)
	checkDo(t, "all at once and one", impl.Disk{}, put("a", longText("y", impl.MaxBytes+1)), impl.DkFull)
	// What the files before took is not counted any more.
	checkDo(t, "in the end", with(impl.Disk{}, put("a", longText("x", impl.MaxBytes)), remove("a")), put("a", longText("y", impl.MaxBytes)), impl.DkOk)
}

func TestNamesAtTheEdges(t *testing.T) {
	for _, name := range allNames() {
		checkDo(t, name, impl.Disk{}, put(name, "x"), impl.DkOk)
		d := synced(file(name, "x"))
		checkDo(t, name, d, move(name, "to"), impl.DkOk)
		checkDo(t, name, synced(file("to", "x")), move("to", name), impl.DkOk)
		checkDo(t, name, d, remove(name), impl.DkOk)
	}
}

// Of several codes that would fit the first is told.
func TestOrderOfTheCodesOfDo(t *testing.T) {
	wrong := impl.Disk{Live: []impl.File{file("a", "x")}}
	if _, code := impl.Do(wrong, impl.DOp{}); code != impl.DkDisk {
		t.Error("wrong and no form", code)
	}
	if _, code := impl.Do(wrong, remove("none")); code != impl.DkDisk {
		t.Error("wrong and none", code)
	}
	at := synced(full()...)
	for len(at.Ops) < impl.MaxOps {
		at = doneOnDisk(at, put("!", ""))
	}
	checkDo(t, "no form, none, full", at, impl.DOp{Kind: impl.DkRename, Name: "none", To: ""}, impl.DkForm)
	checkDo(t, "no form, none, full", at, impl.DOp{Kind: impl.DkRemove, Name: "none", Data: "x"}, impl.DkForm)
	checkDo(t, "no form, full", at, put("", "x"), impl.DkForm)
	checkDo(t, "none, full", at, move("none", "x"), impl.DkNone)
	checkDo(t, "none, full", at, remove("none"), impl.DkNone)
	checkDo(t, "full twice", at, put("none", "x"), impl.DkFull)
}

func checkCrash(t *testing.T, name string, d impl.Disk, keep []int64, torn int64, want ...impl.File) {
	t.Helper()
	left, ok := impl.Crash(d, keep, torn)
	if !ok || !impl.DiskOk(left) {
		t.Errorf("%s: %v, %s", name, ok, diskText(left))
		return
	}
	checkDisk(t, name, left, synced(want...))
}

func TestACrashKeepsWhatItIsTold(t *testing.T) {
	d := with(synced(file("a", "A"), file("b", "B")), put("a", "12"), move("a", "c"), put("b", "345"), remove("c"), put("c", "6"))
	const all = 1000
	a, b, c := file("a", "A"), file("b", "B"), file("c", "A")
	checkCrash(t, "none", d, nil, 0, a, b)
	checkCrash(t, "none, whatever is torn", d, []int64{}, all, a, b)
	checkCrash(t, "the first", d, []int64{0}, all, file("a", "A12"), b)
	checkCrash(t, "the first, torn", d, []int64{0}, 1, file("a", "A1"), b)
	checkCrash(t, "the first, nothing of it", d, []int64{0}, 0, a, b)
	checkCrash(t, "the first, just all of it", d, []int64{0}, 2, file("a", "A12"), b)
	checkCrash(t, "the rename alone", d, []int64{1}, 0, b, c)
	checkCrash(t, "an append that is not the last is whole", d, []int64{0, 1}, 0, b, file("c", "A12"))
	checkCrash(t, "the last alone is torn", d, []int64{0, 2}, 2, file("a", "A12"), file("b", "B34"))
	checkCrash(t, "the remove finds none", d, []int64{3}, 0, a, b)
	checkCrash(t, "rename and remove", d, []int64{1, 3}, 0, b)
	checkCrash(t, "the last makes an empty file", d, []int64{4}, 0, a, b, file("c", ""))
	checkCrash(t, "the last makes its file", d, []int64{4}, 1, a, b, file("c", "6"))
	checkCrash(t, "to what the rename left", d, []int64{1, 4}, all, b, file("c", "A6"))
	checkCrash(t, "all", d, []int64{0, 1, 2, 3, 4}, all, file("b", "B345"), file("c", "6"))
	checkCrash(t, "all, torn", d, []int64{0, 1, 2, 3, 4}, 0, file("b", "B345"), file("c", ""))
	checkCrash(t, "highest", d, []int64{0, 1, 2, 3, 4}, highest, file("b", "B345"), file("c", "6"))
}

func TestACrashWhereFilesAreNotFound(t *testing.T) {
	d := with(synced(file("b", "B")), put("a", "x"), move("a", "b"), put("a", "y"), move("a", "a"), remove("b"))
	b := file("b", "B")
	checkCrash(t, "the rename finds none, so To stays", d, []int64{1}, 0, b)
	checkCrash(t, "onto itself finds none", d, []int64{3}, 0, b)
	checkCrash(t, "onto itself", d, []int64{2, 3}, 0, file("a", "y"), b)
	checkCrash(t, "appended twice", d, []int64{0, 2}, 9, file("a", "xy"), b)
	checkCrash(t, "the new one for the old", d, []int64{0, 1}, 0, file("b", "x"))
	checkCrash(t, "the later one for the old", d, []int64{1, 2}, 9, file("a", "y"), b)
	checkCrash(t, "removed", d, []int64{0, 4}, 0, file("a", "x"))
	checkCrash(t, "nothing on Safe", with(impl.Disk{}, put("a", "x"), remove("a"), put("b", "")), []int64{1}, 5)
	checkCrash(t, "an empty one", with(impl.Disk{}, put("a", "x"), remove("a"), put("b", "")), []int64{2}, 5, file("b", ""))
}

func checkNoCrash(t *testing.T, name string, d impl.Disk, keep []int64, torn int64) {
	t.Helper()
	if left, ok := impl.Crash(d, keep, torn); ok || !isNoDisk(left) {
		t.Errorf("%s: %v %d: %v, %s", name, keep, torn, ok, diskText(left))
	}
}

func TestCrashesThatThereAreNot(t *testing.T) {
	d := with(synced(file("a", "A")), put("a", "1"), put("a", "2"), put("a", "3"))
	for _, keep := range [][]int64{{0, 0}, {1, 0}, {0, 2, 1}, {0, 1, 1}, {2, 2}, {-1}, {-1, 0}, {0, -1}, {3}, {0, 3}, {0, 1, 2, 3}, {lowest}, {highest}, {0, highest}, {1 << 32}, {0, 1<<32 + 1}} {
		for _, torn := range []int64{-1, 0, 1, 9} {
			checkNoCrash(t, "keep", d, keep, torn)
		}
	}
	for _, torn := range []int64{-1, -2, lowest} {
		for _, keep := range [][]int64{nil, {0}, {1, 2}, {0, 1, 2}} {
			checkNoCrash(t, "torn", d, keep, torn)
		}
		checkNoCrash(t, "torn, no ops", impl.Disk{}, nil, torn)
	}
	for _, keep := range [][]int64{{0}, {-1}, {1}} {
		checkNoCrash(t, "no ops", synced(file("a", "A")), keep, 0)
	}
	checkCrash(t, "no ops", synced(file("a", "A")), nil, 0, file("a", "A"))
}

func TestTooMuchBehindACrash(t *testing.T) {
	old := full()
	half := longText("y", impl.MaxBytes/2)
	d := with(synced(old...), remove("!"), put("a", half), put("b", half), remove("a"), put("!", "1"), move("b", "!"))
	checkCrash(t, "all", d, []int64{0, 1, 2, 3, 4, 5}, 0, file("!", half))
	checkNoCrash(t, "bytes of both", d, []int64{1}, impl.MaxBytes)
	checkNoCrash(t, "one byte of it", d, []int64{1}, 1)
	checkCrash(t, "none of it", d, []int64{1}, 0, old[0], file("a", ""))
	checkCrash(t, "too much on the way", d, []int64{1, 3}, 0, old[0])
	checkCrash(t, "too much on the way, onto the old", d, []int64{2, 5}, 0, file("!", half))
	checkNoCrash(t, "two ways", d, []int64{1, 2, 3}, 0)
	checkNoCrash(t, "one more behind it", d, []int64{4}, 1)
	checkCrash(t, "none more behind it", d, []int64{4}, 0, old...)
	checkCrash(t, "just as many", d, []int64{0, 1, 2}, impl.MaxBytes, file("a", half), file("b", half))

	many := manyFiles(impl.MaxFiles, "")
	e := with(synced(many...), remove("f000"), put("new", "x"), remove("f001"), remove("new"))
	checkCrash(t, "one for one", e, []int64{0, 1}, 0, append(many[1:len(many):len(many)], file("new", ""))...)
	checkNoCrash(t, "a file more", e, []int64{1}, 0)
	checkNoCrash(t, "a file more, whole", e, []int64{1}, 1)
	checkCrash(t, "a file more on the way", e, []int64{1, 3}, 0, many...)
	checkCrash(t, "a file less behind it", e, []int64{1, 2}, 0, append(append(many[:1:1], many[2:]...), file("new", "x"))...)
}

func TestSyncOfWhatWasDone(t *testing.T) {
	d := with(synced(file("a", "A")), put("a", "1"), move("a", "b"), put("c", ""))
	got := impl.Sync(d)
	checkDisk(t, "synced", got, synced(file("b", "A1"), file("c", "")))
	checkDisk(t, "twice", impl.Sync(got), got)
	checkDisk(t, "nothing", impl.Sync(impl.Disk{}), impl.Disk{})
}

func checkReplace(t *testing.T, what string, d impl.Disk, name string, text string, want int64, ops ...impl.DOp) {
	t.Helper()
	then, code := impl.Replace(d, name, text)
	if code != want {
		t.Errorf("%s: %d, not %d", what, code, want)
	}
	checkDisk(t, what, then, with(d, ops...))
}

func TestReplace(t *testing.T) {
	const ok, form, full4 = impl.DkOk, impl.DkForm, impl.DkFull
	d := synced(file("a", "old"), file("b", "B"))
	checkReplace(t, "one that is there", d, "a", "new", ok, put("a.new", "new"), move("a.new", "a"))
	checkReplace(t, "one that is not", d, "c", "new", ok, put("c.new", "new"), move("c.new", "c"))
	checkReplace(t, "by nothing", d, "a", "", ok, put("a.new", ""), move("a.new", "a"))
	checkReplace(t, "on nothing", impl.Disk{}, "a", "x", ok, put("a.new", "x"), move("a.new", "a"))
	checkReplace(t, "with a new one there", with(d, put("a.new", "rest")), "a", "x", ok, remove("a.new"), put("a.new", "x"), move("a.new", "a"))
	checkReplace(t, "with a new one there, synced", synced(file("a.new", "rest")), "a", "x", ok, remove("a.new"), put("a.new", "x"), move("a.new", "a"))
	checkReplace(t, "a new one", synced(file("a.new", "rest")), "a.new", "x", ok, put("a.new.new", "x"), move("a.new.new", "a.new"))
	checkReplace(t, "the new one of another", synced(file("b.new", "rest")), "a", "x", ok, put("a.new", "x"), move("a.new", "a"))

	checkReplace(t, "no name", d, "", "x", form)
	checkReplace(t, "no name, with its new one", synced(file(".new", "rest")), "", "x", form)
	longest := longText("n", 96)
	checkReplace(t, "a name of 96 bytes", d, longest, "x", ok, put(longest+".new", "x"), move(longest+".new", longest))
	for size := 97; size < 103; size++ {
		checkReplace(t, "a longer name", d, longText("n", size), "x", form)
		checkReplace(t, "a longer name, all ops", opsOn(d, impl.MaxOps), longText("n", size), "x", form)
	}

	checkReplace(t, "two ops", opsOn(d, impl.MaxOps-2), "a", "x", ok, put("a.new", "x"), move("a.new", "a"))
	checkReplace(t, "one op", opsOn(d, impl.MaxOps-1), "a", "x", full4)
	checkReplace(t, "all ops", opsOn(d, impl.MaxOps), "a", "x", full4)
	e := opsOn(with(d, put("a.new", "rest")), impl.MaxOps-2)
	checkReplace(t, "an op for the new one", e, "a", "x", full4)
	e = opsOn(with(d, put("a.new", "rest")), impl.MaxOps-3)
	checkReplace(t, "just the ops", e, "a", "x", ok, remove("a.new"), put("a.new", "x"), move("a.new", "a"))
	// The append is refused ahead of the rename that has no form, the rename by its form ahead of the ops.
	checkReplace(t, "no name, all ops", opsOn(d, impl.MaxOps), "", "x", full4)
	checkReplace(t, "no name, one op", opsOn(d, impl.MaxOps-1), "", "x", form)
}

func TestReplaceOfAFullDisk(t *testing.T) {
	const ok, full4 = impl.DkOk, impl.DkFull
	d := synced(full(file("a", "old"))...)
	checkReplace(t, "old and new", d, "a", "x", full4)
	checkReplace(t, "by nothing", d, "a", "", ok, put("a.new", ""), move("a.new", "a"))
	e := synced(full(file("a", "old"), file("a.new", "rest"))...)
	checkReplace(t, "as long as the new one there", e, "a", "1234", ok, remove("a.new"), put("a.new", "1234"), move("a.new", "a"))
	checkReplace(t, "longer than the new one there", e, "a", "12345", full4)
	many := manyFiles(impl.MaxFiles, "")
	checkReplace(t, "all files", synced(many...), "f000", "x", full4)
	many[1].Name = "f000.new"
	checkReplace(t, "all files, the new one among them", synced(many...), "f000", "x", ok, remove("f000.new"), put("f000.new", "x"), move("f000.new", "f000"))
	checkReplace(t, "all but one", synced(many[2:]...), "f000", "x", ok, put("f000.new", "x"), move("f000.new", "f000"))
	checkReplace(t, "more than there may be", impl.Disk{}, "a", longText("x", impl.MaxBytes+1), full4)
	checkReplace(t, "all that there may be", impl.Disk{}, "a", longText("x", impl.MaxBytes), ok, put("a.new", longText("x", impl.MaxBytes)), move("a.new", "a"))
}

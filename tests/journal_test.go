package tests

import (
	"fmt"
	"slices"
	"testing"

	"loop.example/g00272/impl"
)

func TestConstantsOfTheJournal(t *testing.T) {
	if impl.StOk != 0 || impl.StDisk != 1 || impl.StBad != 2 || impl.StForm != 3 || impl.StFull != 4 || impl.StPower != 5 || impl.StTorn != 6 || impl.StNone != 7 {
		t.Error("codes")
	}
	if impl.AcNew != 1 || impl.AcLog != 2 || impl.AcSave != 3 || impl.AcOpen != 4 || impl.AcCrash != 5 {
		t.Error("kinds")
	}
}

// journalOn is a disk with a base and a log, synced, and files that are none of the journal's.
func journalOn(base string, log ...string) impl.Disk {
	files := []impl.File{file("a", "x"), file("base", base)}
	if log != nil {
		all := ""
		for _, f := range log {
			all += f
		}
		files = append(files, file("log", all))
	}
	return synced(append(files, file("z", ""))...)
}

func TestNewJournalsByteByByte(t *testing.T) {
	d, code := impl.JournalDo(impl.Disk{}, starting(2))
	// The number of no steps, and the kernel's text, 49 bytes in all.
	text := "0\nthread 1 1 2 0\nthread 2 1 2 0\nobject 1 3 0 1 0\n"
	if code != impl.StOk || len(text) != 0x31 {
		t.Fatal(code, len(text))
	}
	checkDisk(t, "new", d, synced(file("base", frameIn(text))))
	if base := fileOn(d, "base"); base[:4] != "\x00\x00\x00\x31" || base[8:] != text {
		t.Errorf("%q", base)
	}
	d, _ = impl.JournalDo(d, logging(giving(2, impl.SyWrite, 2001, " a b ")))
	if log := fileOn(d, "log"); log != frameIn("1\n2 6 2001 0 0 0 0  a b ") {
		t.Errorf("%q", log)
	}
	d, _ = impl.JournalDo(d, logging(simple(1, impl.SyCat, none)))
	if log := fileOn(d, "log"); log != frameIn("1\n2 6 2001 0 0 0 0  a b ")+frameIn("2\n1 1 0 0 0 0 0 ") || len(d.Ops) != 2 {
		t.Errorf("%q", log)
	}
	d, _ = impl.JournalDo(d, saving())
	checkDisk(t, "saved", d, synced(file("base", frameIn("2\nthread 1 1 2 1 1001\nthread 2 1 2 0\nobject 1 3 0 1 0\n"))))
}

func TestViewsOfABaseAlone(t *testing.T) {
	kernels := map[string]impl.Kernel{"new": newKernel(1), "nine": newKernel(9), "small": smallKernel(), "gallery": gallery(), "blanks": blankKernel(), "greatest": greatest()}
	for name, k := range kernels {
		for _, number := range []int64{0, 1, 9, 10, 999999999, topCount} {
			d := journalOn(baseIn(number, k))
			checkView(t, name, d, k, number)
			checkView(t, name+", an empty log", journalOn(baseIn(number, k), ""), k, number)
			// Only Live is looked at.
			checkView(t, name+", not synced", with(impl.Disk{}, put("base.new", baseIn(number, k)), move("base.new", "base")), k, number)
		}
	}
}

func TestViewsOfNoBase(t *testing.T) {
	base := baseIn(0, newKernel(2))
	for name, d := range map[string]impl.Disk{
		"nothing":     {},
		"other files": synced(file("BASE", base), file("base ", base), file("base.new", base), file("log", logIn(1, journalStep(0)))),
		"gone":        with(synced(file("base", base)), remove("base")),
		"renamed":     with(synced(file("base", base)), move("base", "base.new")),
	} {
		checkNoView(t, name, d, impl.StNone)
		for _, a := range []impl.Act{logging(journalStep(0)), syncing(impl.Step{}), saving(), opening(), powered(saving(), 0)} {
			checkRefused(t, name, d, a, impl.StNone)
		}
	}
}

// wrongBases are no base's bytes; name says why.
func wrongBases() map[string]string {
	k := newKernel(2)
	text, right := kernelTextIn(k), baseIn(0, k)
	out := map[string]string{
		"no bytes":          "",
		"noughts":           longText("\x00", 8),
		"two frames":        right + right,
		"an empty one more": right + frameIn(""),
		"a byte more":       right + "\x00",
		"a byte ahead":      "\x00" + right,
		"a byte less":       right[:len(right)-1],
		"no frame":          "0\n" + text,
		"a frame in one":    frameIn(right),
		"a step":            logIn(0, journalStep(0)),
		"no number":         frameIn(text),
		"no kernel":         frameIn("0\n"),
		"a number alone":    frameIn("0"),
		"a line alone":      frameIn("\n" + text),
		"a blank":           frameIn("0 " + text),
		"two line feeds":    frameIn("0\n\n" + text),
		"carriage return":   frameIn("0\r\n" + text),
		"kernel ends early": frameIn("0\n" + text[:len(text)-1]),
		"a line more":       frameIn("0\n" + text + "\n"),
		"no right kernel":   frameIn("0\n" + kernelTextIn(wrongKernels()["up is itself"])),
		"number one more":   baseIn(topCount+1, k),
		"number below 0":    baseIn(-1, k),
	}
	for _, word := range noNumbers() {
		if word != "1000000000" {
			out["number "+word] = frameIn(word + "\n" + text)
		}
	}
	for _, turned := range []int{0, 3, 4, 7, 8, 9, 20, len(right) - 1} {
		b := []byte(right)
		b[turned] ^= 1
		out[fmt.Sprint("turned at ", turned)] = string(b)
	}
	return out
}

func TestBrokenBases(t *testing.T) {
	for name, base := range wrongBases() {
		for _, d := range []impl.Disk{journalOn(base), journalOn(base, logIn(1, journalStep(0))), journalOn(base, "torn"), with(impl.Disk{}, put("base", base))} {
			checkNoView(t, name, d, impl.StBad)
			for _, a := range []impl.Act{logging(journalStep(0)), syncing(impl.Step{}), saving(), opening(), powered(opening(), 0)} {
				checkRefused(t, name, d, a, impl.StBad)
			}
			checkRefused(t, name, d, starting(2), impl.StForm)
		}
		d := with(journalOn(base), put("a", "y"))
		checkAct(t, name+", crash", d, crashing(9, 0), impl.StBad, impl.Sync(d))
	}
}

// A logCase is a log behind a base of number 2, and which of its frames count.
type logCase struct {
	log   []string
	count []int
	good  bool
}

func logCases() map[string]logCase {
	f := func(number int64) string { return logIn(number, journalStep(int(number))) }
	bad := func(text string) string { return frameIn(text) }
	next := stepTextIn(journalStep(3))
	return map[string]logCase{
		"none":                        {nil, nil, true},
		"empty":                       {[]string{""}, nil, true},
		"next":                        {[]string{f(3)}, []int{3}, true},
		"three":                       {[]string{f(3), f(4), f(5)}, []int{3, 4, 5}, true},
		"old ones":                    {[]string{f(0), f(1), f(2)}, nil, true},
		"old ones ahead":              {[]string{f(1), f(2), f(3), f(4)}, []int{3, 4}, true},
		"old ones in any order":       {[]string{f(2), f(0), f(1), f(3), f(2), f(4), f(3)}, []int{3, 4}, true},
		"done twice":                  {[]string{f(3), f(3), f(4), f(4)}, []int{3, 4}, true},
		"another with an old number":  {[]string{f(3), logIn(3, journalStep(9)), f(4)}, []int{3, 4}, true},
		"a later one":                 {[]string{f(4)}, nil, false},
		"a later one behind":          {[]string{f(3), f(5)}, []int{3}, false},
		"a later one, then the next":  {[]string{f(3), f(5), f(4), f(5)}, []int{3}, false},
		"a later one, then old ones":  {[]string{f(9), f(1)}, nil, false},
		"much later":                  {[]string{f(topCount)}, nil, false},
		"no number":                   {[]string{f(topCount + 1)}, nil, false},
		"no number, then the next":    {[]string{bad("-1\n" + next), f(3)}, nil, false},
		"no frame":                    {[]string{"?"}, nil, false},
		"no frame behind":             {[]string{f(3), "?"}, []int{3}, false},
		"no frame between":            {[]string{f(3), "?", f(4)}, []int{3}, false},
		"an empty frame":              {[]string{f(3), bad("")}, []int{3}, false},
		"an empty frame ahead":        {[]string{bad(""), f(3)}, nil, false},
		"noughts":                     {[]string{f(3), longText("\x00", 5)}, []int{3}, false},
		"noughts of a frame":          {[]string{f(3), longText("\x00", 8)}, []int{3}, false},
		"cut":                         {[]string{f(3), f(4)[:20]}, []int{3}, false},
		"cut by one":                  {[]string{f(3), f(4)[:len(f(4))-1]}, []int{3}, false},
		"cut, then the next":          {[]string{f(3)[:9], f(3)}, nil, false},
		"no step":                     {[]string{bad("3\n"), f(3)}, nil, false},
		"a step that is not right":    {[]string{bad("3\n0 1 0 0 0 0 0 ")}, nil, false},
		"old, not a right step":       {[]string{bad("1\n0 1 0 0 0 0 0 "), f(3)}, nil, false},
		"old, no step":                {[]string{bad("2\n"), f(3)}, nil, false},
		"old, no line feed":           {[]string{bad("2"), f(3)}, nil, false},
		"a step without a number":     {[]string{bad(next)}, nil, false},
		"a step with a line feed":     {[]string{bad("3\n" + next + "\n")}, nil, false},
		"two line feeds":              {[]string{bad("3\n\n" + next)}, nil, false},
		"a blank":                     {[]string{bad("3 " + next)}, nil, false},
		"noughts ahead":               {[]string{bad("03\n" + next)}, nil, false},
		"a sign":                      {[]string{bad("+3\n" + next)}, nil, false},
		"a kernel":                    {[]string{baseIn(3, newKernel(2))}, nil, false},
		"two steps in one":            {[]string{bad("3\n" + next + "4\n" + next)}, nil, false},
		"frames in one":               {[]string{bad(f(3) + f(4))}, nil, false},
		"refused, and the next":       {[]string{logIn(3, simple(7, impl.SyCat, none)), logIn(4, simple(1, impl.SyCat, none))}, []int{-7, -1}, true},
		"many, and one that is later": {append(manyLogs(3, 60), f(99)), rangeOf(3, 60), false},
		"many":                        {manyLogs(3, 60), rangeOf(3, 60), true},
	}
}

func rangeOf(from int, many int) []int {
	var out []int
	for i := range many {
		out = append(out, from+i)
	}
	return out
}

func manyLogs(from int, many int) []string {
	var out []string
	for _, n := range rangeOf(from, many) {
		out = append(out, logIn(int64(n), journalStep(n)))
	}
	return out
}

// countedStep is the step of logCases with that number; below 0 stand threads that make a category.
func countedStep(n int) impl.Step {
	if n < 0 {
		return simple(int64(-n), impl.SyCat, none)
	}
	return journalStep(n)
}

func TestWhichFramesOfALogCount(t *testing.T) {
	k, _ := impl.Ran(newKernel(2), journalSteps()[:2])
	for name, c := range logCases() {
		want := k
		for _, n := range c.count {
			want, _, _ = impl.Done(want, countedStep(n))
		}
		number := int64(2 + len(c.count))
		d := journalOn(baseIn(2, k), c.log...)
		checkView(t, name, d, want, number)
		saved := synced(file("a", "x"), file("base", baseIn(number, want)), file("z", ""))
		next := giving(1, impl.SyWrite, 1001, "next")
		if !c.good {
			checkRefused(t, name, d, logging(next), impl.StTorn)
			checkRefused(t, name, d, syncing(next), impl.StTorn)
			checkRefused(t, name, d, logging(impl.Step{}), impl.StForm)
			checkRefused(t, name, d, saving(), impl.StTorn)
			checkAct(t, name, d, opening(), impl.StOk, saved)
			checkAct(t, name, d, crashing(0), impl.StOk, saved)
			continue
		}
		checkAct(t, name, d, logging(next), impl.StOk, with(d, put("log", logIn(number+1, next))))
		checkAct(t, name, d, syncing(next), impl.StOk, impl.Sync(with(d, put("log", logIn(number+1, next)))))
		checkAct(t, name, d, saving(), impl.StOk, saved)
		checkAct(t, name, d, opening(), impl.StOk, d)
		checkAct(t, name, d, crashing(0), impl.StOk, d)
	}
}

// Each code that Done tells counts.
func TestRefusedStepsAreLogged(t *testing.T) {
	d := played(t, impl.Disk{}, starting(2))
	refused := []impl.Step{simple(9, impl.SyCat, none), simple(1, impl.SyRead, 9999-1000), simple(2, impl.SyDrop, 1), leaving(1, 5)}
	for i, s := range refused {
		if _, code, _ := impl.Done(newKernel(2), s); code == impl.AnDone {
			t.Fatal(s)
		}
		d = played(t, d, logging(s))
		checkView(t, "refused", d, newKernel(2), int64(i+1))
	}
	d = played(t, d, saving())
	checkDisk(t, "saved", d, synced(file("base", baseIn(int64(len(refused)), newKernel(2)))))
}

func TestTheLastNumberThatThereMayBe(t *testing.T) {
	k, s := newKernel(2), journalStep(0)
	after, _, _ := impl.Done(k, s)
	last := journalOn(baseIn(topCount-1, k))
	end := with(last, put("log", logIn(topCount, s)))
	checkAct(t, "the last", last, logging(s), impl.StOk, end)
	checkView(t, "the last", end, after, topCount)
	checkRefused(t, "one more", end, logging(s), impl.StForm)
	checkRefused(t, "one more", journalOn(baseIn(topCount, k)), syncing(s), impl.StForm)
	checkRefused(t, "one more, no power", journalOn(baseIn(topCount, k)), powered(syncing(s), 0), impl.StForm)
	checkRefused(t, "one more, a torn log", journalOn(baseIn(topCount, k), "?"), logging(s), impl.StForm)
	checkAct(t, "saved", end, saving(), impl.StOk, journalOn(baseIn(topCount, after)))
	checkView(t, "no such number", journalOn(baseIn(topCount, k), logIn(topCount+1, s)), k, topCount)
	checkRefused(t, "no such number", journalOn(baseIn(topCount, k), logIn(topCount+1, s)), saving(), impl.StTorn)
	checkView(t, "the last twice", journalOn(baseIn(topCount-1, k), logIn(topCount, s), logIn(topCount, s)), after, topCount)
}

func TestJournalsOfDisksThatAreNotRight(t *testing.T) {
	wrong := wrongDisks()
	base := baseIn(0, newKernel(2))
	wrong["a base on Live alone"] = impl.Disk{Live: []impl.File{file("base", base)}}
	wrong["a base twice"] = synced(file("base", base), file("base", base))
	wrong["a log that is not done"] = impl.Disk{Live: []impl.File{file("base", base)}, Safe: []impl.File{file("base", base)}, Ops: []impl.DOp{put("log", "")}}
	acts := []impl.Act{{}, {Kind: 6}, starting(2), starting(0), logging(journalStep(0)), logging(impl.Step{}), saving(), opening(), crashing(0), crashing(-1), powered(saving(), 0)}
	for name, d := range wrong {
		checkNoView(t, name, d, impl.StDisk)
		for _, a := range acts {
			if then, code := impl.JournalDo(d, a); code != impl.StDisk || !isNoDisk(then) {
				t.Errorf("%s: act %d: %d, %s", name, a.Kind, code, diskText(then))
			}
		}
		for _, list := range [][]impl.Act{nil, acts} {
			if then, codes := impl.JournalPlay(d, list); len(codes) != 0 || !isNoDisk(then) {
				t.Errorf("%s: played: %v, %s", name, codes, diskText(then))
			}
		}
	}
}

func TestActsOfNoKind(t *testing.T) {
	right := rightDisks()
	right["a journal"], right["a broken one"] = journalOn(baseIn(0, newKernel(2))), journalOn("?", "?")
	for name, d := range right {
		for _, kind := range []int64{0, -1, 6, 7, 9, 1<<32 + 1, lowest, highest} {
			for _, power := range []int64{-1, 0, 5} {
				checkRefused(t, name, d, impl.Act{Kind: kind, Many: 2, Step: journalStep(0), Power: power}, impl.StForm)
			}
		}
	}
}

func TestPlay(t *testing.T) {
	d := with(synced(file("a", "x")), put("a", "y"))
	then, codes := impl.JournalPlay(d, nil)
	checkDisk(t, "no acts", then, d)
	if len(codes) != 0 {
		t.Error(codes)
	}
	s := journalStep(0)
	acts := []impl.Act{opening(), starting(0), starting(3), starting(3), logging(s), logging(impl.Step{}), powered(syncing(s), 1), powered(saving(), 0), {Kind: 6}, crashing(0, 0, 1, 2), crashing(20, 0, 1), logging(s), saving()}
	want := []int64{impl.StNone, impl.StForm, impl.StOk, impl.StForm, impl.StOk, impl.StForm, impl.StPower, impl.StPower, impl.StForm, impl.StForm, impl.StOk, impl.StOk, impl.StOk}
	then, codes = impl.JournalPlay(d, acts)
	if !slices.Equal(codes, want) {
		t.Error(codes)
	}
	k, _ := impl.Ran(newKernel(3), []impl.Step{s, s})
	checkDisk(t, "played", then, synced(file("base", baseIn(2, k))))
}

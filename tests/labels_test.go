package tests

import (
	"regexp"
	"slices"
	"strconv"
	"strings"
	"testing"

	"loop.example/g00272/impl"
)

func TestLabelOkTakesTheEdges(t *testing.T) {
	right := map[string]impl.Label{
		"zero value":      {},
		"base 3":          label(impl.MaxLevel),
		"empty list":      {Base: 1, Cats: []impl.Cat{}},
		"id 1":            label(1, impl.Cat{Id: 1, Level: 2}),
		"id 9999":         label(1, impl.Cat{Id: impl.MaxCat, Level: 2}),
		"both ids":        label(1, impl.Cat{Id: 1, Level: 2}, impl.Cat{Id: impl.MaxCat, Level: 2}),
		"level 0":         label(1, impl.Cat{Id: 5, Level: 0}),
		"level 3":         label(1, impl.Cat{Id: 5, Level: impl.MaxLevel}),
		"ids side by one": label(1, impl.Cat{Id: 5, Level: 2}, impl.Cat{Id: 6, Level: 2}),
		"twelve":          run(1, 1, impl.MaxCats, 2),
		"twelve last":     run(1, impl.MaxCat-impl.MaxCats+1, impl.MaxCats, 0),
	}
	for name, l := range right {
		if !impl.LabelOk(l) {
			t.Errorf("%s: %v is right", name, l)
		}
	}
}

func TestWrongLabelsHaveOneAnswer(t *testing.T) {
	good := label(1, impl.Cat{Id: 5, Level: 3})
	for name, l := range wrongLabels() {
		if impl.LabelOk(l) {
			t.Errorf("%s: %v is not right", name, l)
		}
		if n := impl.LevelOf(l, 5); n != -1 {
			t.Errorf("%s: LevelOf is %d", name, n)
		}
		if m, ok := impl.With(l, 5, 2); ok || !isZero(m) {
			t.Errorf("%s: With is %v, %v", name, m, ok)
		}
		if s := impl.LabelText(l); s != "" {
			t.Errorf("%s: LabelText is %q", name, s)
		}
		if impl.Leq(l, label(3)) || impl.Leq(label(0), l) || impl.Leq(l, l) {
			t.Errorf("%s: Leq holds", name)
		}
		for _, f := range []func(impl.Label, impl.Label) (impl.Label, bool){impl.Join, impl.Meet} {
			for _, pair := range [][2]impl.Label{{l, good}, {good, l}, {l, l}, {l, {}}, {{}, l}} {
				if m, ok := f(pair[0], pair[1]); ok || !isZero(m) {
					t.Errorf("%s: a join or meet of %v is %v, %v", name, pair, m, ok)
				}
			}
		}
	}
}

func TestLevelOfEachCategory(t *testing.T) {
	for _, l := range append(someLabels(20, 1), smallLabels()...) {
		for _, cat := range asked(l, l) {
			if n := impl.LevelOf(l, cat); n != levelIn(l, cat) {
				t.Errorf("LevelOf(%v, %d) is %d", l, cat, n)
			}
		}
		for _, cat := range []int64{0, -1, impl.MaxCat + 1, lowest, highest} {
			if n := impl.LevelOf(l, cat); n != -1 {
				t.Errorf("LevelOf(%v, %d) is %d: there is no such category", l, cat, n)
			}
		}
	}
	l := label(1, impl.Cat{Id: 1, Level: 0}, impl.Cat{Id: 500, Level: 2}, impl.Cat{Id: impl.MaxCat, Level: 3})
	for cat := int64(1); cat <= impl.MaxCat; cat++ {
		if n := impl.LevelOf(l, cat); n != levelIn(l, cat) {
			t.Errorf("LevelOf(%d) is %d", cat, n)
		}
	}
}

func TestWithSetsOneLevelAlone(t *testing.T) {
	for _, l := range append(someLabels(200, 2), smallLabels()...) {
		for _, cat := range asked(l, l) {
			for level := int64(0); level <= impl.MaxLevel; level++ {
				checkWith(t, l, cat, level)
			}
		}
	}
}

func checkWith(t *testing.T, l impl.Label, cat int64, level int64) {
	t.Helper()
	size := 0
	for _, c := range l.Cats {
		if c.Id != cat {
			size++
		}
	}
	if level != l.Base {
		size++
	}
	m, ok := impl.With(l, cat, level)
	if ok != (size <= impl.MaxCats) {
		t.Fatalf("With(%v, %d, %d) is %v", l, cat, level, ok)
	}
	if !ok {
		if !isZero(m) {
			t.Fatalf("With(%v, %d, %d) is false with %v", l, cat, level, m)
		}
		return
	}
	if !impl.LabelOk(m) || m.Base != l.Base || len(m.Cats) != size || levelIn(m, cat) != level {
		t.Fatalf("With(%v, %d, %d) is %v", l, cat, level, m)
	}
	for _, other := range asked(l, m) {
		if other != cat && levelIn(m, other) != levelIn(l, other) {
			t.Fatalf("With(%v, %d, %d) is %v: %d is not as it was", l, cat, level, m, other)
		}
	}
}

func TestWithAtItsLimits(t *testing.T) {
	eleven, twelve := run(1, 10, impl.MaxCats-1, 2), run(1, 10, impl.MaxCats, 2)
	if m, ok := impl.With(eleven, 5, 0); !ok || len(m.Cats) != impl.MaxCats || m.Cats[0].Id != 5 {
		t.Error("a twelfth category", m, ok)
	}
	if m, ok := impl.With(twelve, 5, 0); ok || !isZero(m) {
		t.Error("a thirteenth category", m, ok)
	}
	if m, ok := impl.With(twelve, 5, 1); !ok || !same(m, twelve) {
		t.Error("the base of a category that is not named", m, ok)
	}
	if m, ok := impl.With(twelve, 10, 3); !ok || len(m.Cats) != impl.MaxCats || levelIn(m, 10) != 3 {
		t.Error("another level of one of twelve", m, ok)
	}
	if m, ok := impl.With(twelve, 10, 1); !ok || len(m.Cats) != impl.MaxCats-1 {
		t.Error("the base of one of twelve", m, ok)
	}
	for _, cat := range []int64{0, -1, impl.MaxCat + 1, lowest, highest} {
		if m, ok := impl.With(label(1), cat, 2); ok || !isZero(m) {
			t.Error("no category", cat, m, ok)
		}
	}
	for _, level := range []int64{-1, impl.MaxLevel + 1, lowest, highest} {
		if m, ok := impl.With(label(1), 5, level); ok || !isZero(m) {
			t.Error("no level", level, m, ok)
		}
	}
}

func TestLeqIsEachLevelBelow(t *testing.T) {
	all := append(smallLabels(), someLabels(150, 3)...)
	for _, a := range all {
		for _, b := range all {
			if impl.Leq(a, b) != isBelow(a, b, nil) {
				t.Fatalf("Leq(%v, %v) is %v", a, b, impl.Leq(a, b))
			}
		}
	}
	if impl.Leq(label(1, impl.Cat{Id: 5, Level: 0}), label(0)) || impl.Leq(label(2), label(1, impl.Cat{Id: 5, Level: 3})) {
		t.Error("a base that is above")
	}
	if !impl.Leq(run(0, 1, impl.MaxCats, 1), run(0, 1, impl.MaxCats, 2)) || !impl.Leq(run(1, 1, 12, 0), run(1, 13, 12, 2)) {
		t.Error("twelve categories each")
	}
}

func TestLeqIsAnOrder(t *testing.T) {
	all := smallLabels()
	for i, a := range all {
		if !impl.Leq(a, a) {
			t.Fatalf("%v is not below itself", a)
		}
		for j, b := range all {
			ab := impl.Leq(a, b)
			if i != j && ab && impl.Leq(b, a) {
				t.Fatalf("%v and %v are below each other", a, b)
			}
			if !ab {
				continue
			}
			for _, c := range all {
				if impl.Leq(b, c) && !impl.Leq(a, c) {
					t.Fatalf("%v, %v, %v: below is not handed on", a, b, c)
				}
			}
		}
	}
}

func TestJoinIsTheLeastAboveMeetTheGreatestBelow(t *testing.T) {
	all := smallLabels()
	for _, a := range all {
		for _, b := range all {
			j, jOk := impl.Join(a, b)
			m, mOk := impl.Meet(a, b)
			if !jOk || !mOk || !impl.LabelOk(j) || !impl.LabelOk(m) {
				t.Fatalf("join %v and meet %v of %v and %v", j, m, a, b)
			}
			if !isBelow(a, j, nil) || !isBelow(b, j, nil) || !isBelow(m, a, nil) || !isBelow(m, b, nil) {
				t.Fatalf("join %v and meet %v of %v and %v: not above, not below", j, m, a, b)
			}
			for _, c := range all {
				if isBelow(a, c, nil) && isBelow(b, c, nil) && !isBelow(j, c, nil) {
					t.Fatalf("%v is above %v and %v, and not above their join %v", c, a, b, j)
				}
				if isBelow(c, a, nil) && isBelow(c, b, nil) && !isBelow(c, m, nil) {
					t.Fatalf("%v is below %v and %v, and not below their meet %v", c, a, b, m)
				}
			}
		}
	}
}

// byLevel is Join and Meet in the document's words, category by category.
func byLevel(a impl.Label, b impl.Label, pick func(...int64) int64) (impl.Label, bool) {
	l := impl.Label{Base: pick(a.Base, b.Base)}
	ids := asked(a, b)
	slices.Sort(ids)
	for _, id := range slices.Compact(ids) {
		if level := pick(levelIn(a, id), levelIn(b, id)); level != l.Base {
			l.Cats = append(l.Cats, impl.Cat{Id: id, Level: level})
		}
	}
	if len(l.Cats) > impl.MaxCats {
		return impl.Label{}, false
	}
	return l, true
}

func most(n ...int64) int64 { return slices.Max(n) }

func least(n ...int64) int64 { return slices.Min(n) }

func TestJoinAndMeetLevelByLevel(t *testing.T) {
	all := append(someLabels(250, 4), run(0, 1, 12, 3), run(3, 1, 12, 0))
	refused := 0
	for _, a := range all {
		for _, b := range all {
			j, jOk := impl.Join(a, b)
			if want, ok := byLevel(a, b, most); ok != jOk || !same(j, want) {
				t.Fatalf("Join(%v, %v) is %v, %v", a, b, j, jOk)
			}
			m, mOk := impl.Meet(a, b)
			if want, ok := byLevel(a, b, least); ok != mOk || !same(m, want) {
				t.Fatalf("Meet(%v, %v) is %v, %v", a, b, m, mOk)
			}
			if !jOk || !mOk {
				refused++
			}
		}
	}
	if refused == 0 {
		t.Error("none of these passes MaxCats: the test says too little")
	}
}

func TestJoinAndMeetAtTheirLimits(t *testing.T) {
	high, low := run(1, 1, impl.MaxCats, 2), run(1, 1, impl.MaxCats, 0)
	highFar, lowFar := run(1, 100, impl.MaxCats, 2), run(1, 100, impl.MaxCats, 0)
	cases := []struct {
		name string
		f    func(impl.Label, impl.Label) (impl.Label, bool)
		a, b impl.Label
		want impl.Label
		ok   bool
	}{
		{"join: twelve met", impl.Join, run(1, 1, 6, 2), run(1, 7, 6, 2), high, true},
		{"join: one too many", impl.Join, run(1, 1, 6, 2), run(1, 7, 7, 2), impl.Label{}, false},
		{"join: twelve and one", impl.Join, high, label(1, impl.Cat{Id: 50, Level: 3}), impl.Label{}, false},
		{"join: all named twice", impl.Join, high, high, high, true},
		{"join: lower ones fall out", impl.Join, high, lowFar, high, true},
		{"join: a base above takes all", impl.Join, high, label(3), label(3), true},
		{"join: the base meets the level", impl.Join, high, label(2), label(2), true},
		{"join: the other's base lifts", impl.Join, low, run(2, 1, 12, 3), run(2, 1, 12, 3), true},
		{"meet: twelve met", impl.Meet, run(1, 1, 6, 0), run(1, 7, 6, 0), low, true},
		{"meet: one too many", impl.Meet, run(1, 1, 6, 0), run(1, 7, 7, 0), impl.Label{}, false},
		{"meet: twelve and one", impl.Meet, low, label(1, impl.Cat{Id: 50, Level: 0}), impl.Label{}, false},
		{"meet: higher ones fall out", impl.Meet, low, highFar, low, true},
		{"meet: a base below takes all", impl.Meet, high, label(0), label(0), true},
		{"meet: levels above the lesser base stay", impl.Meet, high, label(3), high, true},
	}
	for _, c := range cases {
		if got, ok := c.f(c.a, c.b); ok != c.ok || !same(got, c.want) {
			t.Errorf("%s: %v, %v", c.name, got, ok)
		}
		if got, ok := c.f(c.b, c.a); ok != c.ok || !same(got, c.want) {
			t.Errorf("%s, turned: %v, %v", c.name, got, ok)
		}
	}
}

func TestLabelsComeBackFromTheirTexts(t *testing.T) {
	seen := map[string]impl.Label{}
	for _, l := range append(someLabels(500, 5), append(smallLabels(), run(3, impl.MaxCat-11, impl.MaxCats, 0))...) {
		s := impl.LabelText(l)
		m, ok := impl.ReadLabel(s)
		if !ok || !same(l, m) {
			t.Errorf("%v is written %q and read %v, %v", l, s, m, ok)
		}
		if other, ok := seen[s]; ok && !same(l, other) {
			t.Errorf("%v and %v are both written %q", l, other, s)
		}
		seen[s] = l
	}
}

func TestTextsOfLabels(t *testing.T) {
	texts := map[string]impl.Label{
		"0":              {},
		"3":              label(3),
		"1,5:3,7:0":      label(1, impl.Cat{Id: 5, Level: 3}, impl.Cat{Id: 7, Level: 0}),
		"0,1:1,9999:3":   label(0, impl.Cat{Id: 1, Level: 1}, impl.Cat{Id: impl.MaxCat, Level: 3}),
		"2,9:1,10:0":     label(2, impl.Cat{Id: 9, Level: 1}, impl.Cat{Id: 10, Level: 0}),
		"3,999:2,1000:2": label(3, impl.Cat{Id: 999, Level: 2}, impl.Cat{Id: 1000, Level: 2}),
	}
	for s, l := range texts {
		if got := impl.LabelText(l); got != s {
			t.Errorf("LabelText(%v) is %q", l, got)
		}
		if got, ok := impl.ReadLabel(s); !ok || !same(got, l) {
			t.Errorf("ReadLabel(%q) is %v, %v", s, got, ok)
		}
	}
}

func TestTextsOfNoLabel(t *testing.T) {
	twelve := impl.LabelText(run(1, 1, impl.MaxCats, 2))
	texts := []string{
		"", " ", ",", ":", "-", "4", "-1", "+1", "00", "01", "10", "1 ", " 1", "1\n", "1\x00", "a", "\xff", "1.0", "0x1",
		"1,", ",1", "1,,", "1,,5:3", "1,5:3,", "1,5:3,,7:0", "1;5:3", "1 ,5:3", "1, 5:3", "1,5:3 ", "1,5:3\n", "1,5:3x",
		"1,5", "1,5:", "1,:3", "1,:", "1,5::3", "1,5:3:", "1,5:3:2", "1:5,3", "1:", "1,5;3", "15:3", "1,5:37:0",
		"1,05:3", "1,5:03", "01,5:3", "1,00005:3", "1,0:2", "1,-5:3", "1,+5:3", "1,5:-1", "1,5:+3", "1,10000:2", "1,5:4", "1,5:10",
		"1,5:1", "0,5:0", "3,5:3", "1,7:0,5:3", "1,5:3,5:3", "1,5:3,5:2", "1,5:3,7:1",
		"11111111111", "1,11111111111:2", "1,5:11111111111", "0000000001", "1,0000000005:3", "1,5:0000000003", "00000000001",
		"18446744073709551617", "1,18446744073709551621:3", "1,5:18446744073709551619", "4294967297", "1,4294967301:3", "1,5:4294967299",
		twelve + ",13:2", twelve + ",", twelve + ",9999:0", twelve + " ", twelve + ",12:2", twelve + longText(",13:2", 10000),
		longText("1", 100000), "1" + longText(",", 100000), "1,5:" + longText("0", 100000) + "3", longText("1,5:3", 3),
	}
	for _, s := range texts {
		if l, ok := impl.ReadLabel(s); ok || !isZero(l) {
			t.Errorf("ReadLabel(%.60q) is %v, %v", s, l, ok)
		}
	}
	if _, ok := impl.ReadLabel(twelve); !ok {
		t.Error("twelve categories are read")
	}
}

var labelForm = regexp.MustCompile(`^[0-3](,[1-9][0-9]{0,3}:[0-3])*\z`)

// isLabelText says by its form, without the program, whether a text is some right label's.
func isLabelText(s string) bool {
	if !labelForm.MatchString(s) {
		return false
	}
	pieces := strings.Split(s, ",")
	last := 0
	for _, p := range pieces[1:] {
		id, level, _ := strings.Cut(p, ":")
		n, _ := strconv.Atoi(id)
		if n <= last || level == pieces[0] {
			return false
		}
		last = n
	}
	return len(pieces)-1 <= impl.MaxCats
}

func checkRead(t *testing.T, s string) {
	t.Helper()
	l, ok := impl.ReadLabel(s)
	if ok != isLabelText(s) {
		t.Fatalf("ReadLabel(%q) is %v, %v", s, l, ok)
	}
	if ok && impl.LabelText(l) != s || !ok && !isZero(l) {
		t.Fatalf("ReadLabel(%q) is %v, written %q", s, l, impl.LabelText(l))
	}
}

func TestEachShortText(t *testing.T) {
	const bytes = "0139,: -"
	list := []string{""}
	for range 6 {
		var longer []string
		for _, s := range list {
			checkRead(t, s)
			for i := range len(bytes) {
				longer = append(longer, s+bytes[i:i+1])
			}
		}
		list = longer
	}
	for _, s := range list {
		checkRead(t, s)
	}
}

func TestTextsWithOneByteAmiss(t *testing.T) {
	for _, l := range append(someLabels(40, 6), run(1, 5, impl.MaxCats, 2)) {
		s := impl.LabelText(l)
		for i := range len(s) {
			checkRead(t, s[:i])
			checkRead(t, s[:i]+s[i+1:])
			for _, b := range []string{"0", "1", "9", ",", ":", " ", "-", "\n", "\x00", "\xff"} {
				checkRead(t, s[:i]+b+s[i:])
				checkRead(t, s[:i]+b+s[i+1:])
				checkRead(t, s+b)
			}
		}
	}
}

func TestLabelsAnswerTheSameAgain(t *testing.T) {
	a, b := run(1, 1, impl.MaxCats, 2), run(1, 7, 6, 3)
	for range 200 {
		if j, ok := impl.Join(a, b); !ok || impl.LabelText(j) != "1,1:2,2:2,3:2,4:2,5:2,6:2,7:3,8:3,9:3,10:3,11:3,12:3" {
			t.Fatal(j, ok)
		}
		if m, ok := impl.With(a, 6, 0); !ok || impl.LabelText(m) != "1,1:2,2:2,3:2,4:2,5:2,6:0,7:2,8:2,9:2,10:2,11:2,12:2" {
			t.Fatal(m, ok)
		}
	}
}

package impl

import (
	"maps"
	"slices"
	"strconv"
	"strings"
)

const (
	MaxLevel = 3
	MaxCat   = 9999
	MaxCats  = 12
)

// The document bounds the digits of every number that is read, so that none outgrows an int64.
const maxDigits = 10

type Cat struct {
	Id    int64
	Level int64
}

type Label struct {
	Base int64
	Cats []Cat
}

// A label names few of all categories: the map holds these alone, base stands for the rest.
type levels struct {
	base int64
	at   map[int64]int64
}

func isLevel(n int64) bool { return n >= 0 && n <= MaxLevel }

func isCat(n int64) bool { return n >= 1 && n <= MaxCat }

func LabelOk(l Label) bool {
	if !isLevel(l.Base) || len(l.Cats) > MaxCats {
		return false
	}
	last := int64(0)
	for _, c := range l.Cats {
		if !isCat(c.Id) || c.Id <= last || !isLevel(c.Level) || c.Level == l.Base {
			return false
		}
		last = c.Id
	}
	return true
}

func levelsOf(l Label) levels {
	v := levels{base: l.Base, at: map[int64]int64{}}
	for _, c := range l.Cats {
		v.at[c.Id] = c.Level
	}
	return v
}

func (v levels) of(cat int64) int64 {
	if level, ok := v.at[cat]; ok {
		return level
	}
	return v.base
}

// label drops what is the base, so that a level set back to it takes no room among MaxCats.
func (v levels) label() (Label, bool) {
	l := Label{Base: v.base}
	for _, id := range slices.Sorted(maps.Keys(v.at)) {
		if level := v.at[id]; level != v.base {
			l.Cats = append(l.Cats, Cat{Id: id, Level: level})
		}
	}
	if len(l.Cats) > MaxCats {
		return Label{}, false
	}
	return l, true
}

// namedBy sorts, so that no answer hangs on the order in which a map is gone through.
func namedBy(x levels, y levels) []int64 {
	all := maps.Clone(x.at)
	maps.Copy(all, y.at)
	return slices.Sorted(maps.Keys(all))
}

func LevelOf(l Label, cat int64) int64 {
	if !LabelOk(l) || !isCat(cat) {
		return -1
	}
	return levelsOf(l).of(cat)
}

func With(l Label, cat int64, level int64) (Label, bool) {
	if !LabelOk(l) || !isCat(cat) || !isLevel(level) {
		return Label{}, false
	}
	v := levelsOf(l)
	v.at[cat] = level
	return v.label()
}

func Leq(a Label, b Label) bool {
	if !LabelOk(a) || !LabelOk(b) || a.Base > b.Base {
		return false
	}
	x, y := levelsOf(a), levelsOf(b)
	for _, cat := range namedBy(x, y) {
		if x.of(cat) > y.of(cat) {
			return false
		}
	}
	return true
}

func greater(x int64, y int64) int64 { return max(x, y) }

func lesser(x int64, y int64) int64 { return min(x, y) }

func merged(a Label, b Label, pick func(int64, int64) int64) (Label, bool) {
	if !LabelOk(a) || !LabelOk(b) {
		return Label{}, false
	}
	x, y := levelsOf(a), levelsOf(b)
	v := levels{base: pick(x.base, y.base), at: map[int64]int64{}}
	for _, cat := range namedBy(x, y) {
		v.at[cat] = pick(x.of(cat), y.of(cat))
	}
	return v.label()
}

func Join(a Label, b Label) (Label, bool) { return merged(a, b, greater) }

func Meet(a Label, b Label) (Label, bool) { return merged(a, b, lesser) }

func LabelText(l Label) string {
	if !LabelOk(l) {
		return ""
	}
	var text strings.Builder
	text.WriteString(decimal(l.Base))
	for _, c := range l.Cats {
		text.WriteString("," + decimal(c.Id) + ":" + decimal(c.Level))
	}
	return text.String()
}

func ReadLabel(s string) (Label, bool) {
	piece, rest, more := strings.Cut(s, ",")
	base, ok := readDecimal(piece)
	if !ok {
		return Label{}, false
	}
	l := Label{Base: base}
	for more {
		piece, rest, more = strings.Cut(rest, ",")
		c, ok := readCat(piece)
		if !ok || len(l.Cats) == MaxCats {
			return Label{}, false
		}
		l.Cats = append(l.Cats, c)
	}
	if !LabelOk(l) {
		return Label{}, false
	}
	return l, true
}

func readCat(s string) (Cat, bool) {
	left, right, _ := strings.Cut(s, ":")
	id, idOk := readDecimal(left)
	level, levelOk := readDecimal(right)
	if !idOk || !levelOk {
		return Cat{}, false
	}
	return Cat{Id: id, Level: level}, true
}

func decimal(n int64) string { return strconv.FormatInt(n, 10) }

// readDecimal is stricter than strconv, which takes signs and noughts ahead: each number has one text.
func readDecimal(s string) (int64, bool) {
	if s == "" || len(s) > maxDigits || len(s) > 1 && s[0] == '0' {
		return 0, false
	}
	n := int64(0)
	for _, digit := range []byte(s) {
		if digit < '0' || digit > '9' {
			return 0, false
		}
		n = n*10 + int64(digit-'0')
	}
	return n, true
}

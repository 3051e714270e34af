package tests

import (
	"math/rand"
	"slices"
	"strings"
	"testing"

	"loop.example/g00272/impl"
)

// gallery has threads that are felt by some observers and not by others, and each kind of object, seen and not.
func gallery() impl.Kernel {
	low, one, high := label(0), label(1), secret()
	return impl.Kernel{
		Threads: []impl.Thread{
			{Id: 1, Label: one, Clear: label(2), Owns: []int64{7, 1001}, Made: 12},
			{Id: 3, Label: high, Clear: label(2), Owns: []int64{1001}, Made: 0},
			{Id: 4, Label: high, Clear: label(3, impl.Cat{Id: 5, Level: 0}), Made: 30},
			{Id: 9, Label: low, Clear: low, Owns: rising(21, impl.MaxOwns)},
		},
		Objects: []impl.Object{
			rootBox(one),
			segmentIn(1, 1001, one, "two words ~"), segmentIn(1, 1002, one, ""), segmentIn(1, 1003, high, "secret"),
			queueIn(1, 1004, low, "a", "", "b c", "", " "), queueIn(1, 1005, one), queueIn(1, 1006, high, "hidden", ""),
			gateIn(1, 1007, one, label(3, impl.Cat{Id: 1001, Level: 0}), 7, 1001), gateIn(1, 1008, one, low), gateIn(1, 1009, high, high, 7),
			boxIn(1, 1010, one), boxIn(1010, 1011, high), boxIn(1010, 1012, low),
			segmentIn(1011, 4001, high, "deep"), segmentIn(1010, 4002, high, ""), queueIn(1010, 4030, one, ""),
		},
	}
}

func galleryViewOfOne() []string {
	return []string{
		"view 1",
		"thread 1 1 2 12 7 1001",
		"thread 3 1,1001:2 2 0 1001",
		"thread 9 0 0 0 21 22 23 24 25 26 27 28 29 30",
		"object 1 3 0 1 0 1001 1002 1003 1004 1005 1006 1007 1008 1009 1010",
		"object 1001 1 1 1 0", "data two words ~",
		"object 1002 1 1 1 0",
		"object 1004 2 1 0 0", "item a", "item ", "item b c", "item ", "item  ",
		"object 1005 2 1 1 0",
		"object 1007 4 1 1 3,1001:0 7 1001",
		"object 1008 4 1 1 0",
		"object 1010 3 1 1 0 1011 1012 4002 4030",
		"object 1012 3 1010 0 0",
		"object 4030 2 1010 1 0", "item ",
	}
}

func galleryViewOfHigh() []string {
	lines := galleryViewOfOne()
	lines[0] = "view 1,1001:2"
	lines = slices.Insert(lines, slices.Index(lines, "thread 9 0 0 0 21 22 23 24 25 26 27 28 29 30"), "thread 4 1,1001:2 3,5:0 30")
	lines = slices.Insert(lines, slices.Index(lines, "object 1004 2 1 0 0"), "object 1003 1 1 1,1001:2 0", "data secret")
	lines = slices.Insert(lines, slices.Index(lines, "object 1007 4 1 1 3,1001:0 7 1001"), "object 1006 2 1 1,1001:2 0", "item hidden", "item ")
	lines = slices.Insert(lines, slices.Index(lines, "object 1010 3 1 1 0 1011 1012 4002 4030"), "object 1009 4 1 1,1001:2 1,1001:2 7")
	lines = slices.Insert(lines, slices.Index(lines, "object 1012 3 1010 0 0"), "object 1011 3 1010 1,1001:2 0 4001")
	return slices.Insert(lines, slices.Index(lines, "object 4030 2 1010 1 0"),
		"object 4001 1 1011 1,1001:2 0", "data deep", "object 4002 1 1010 1,1001:2 0")
}

func joined(lines ...string) string { return strings.Join(lines, "\n") + "\n" }

func TestViewsByteByByte(t *testing.T) {
	k := gallery()
	all := galleryViewOfHigh()
	all[0] = "view 3"
	low := []string{"view 0", "thread 9 0 0 0 21 22 23 24 25 26 27 28 29 30", "object 1004 2 1 0 0", "item a", "item ", "item b c", "item ", "item  ", "object 1012 3 1010 0 0"}
	for _, c := range []struct {
		o    impl.Label
		want string
	}{
		{label(1), joined(galleryViewOfOne()...)},
		{secret(), joined(galleryViewOfHigh()...)},
		{label(3), joined(all...)},
		{label(0), joined(low...)},
	} {
		if v := impl.ViewOf(k, c.o); v != c.want {
			t.Errorf("ViewOf(gallery, %v) is\n%q, not\n%q", c.o, v, c.want)
		}
	}
}

func TestViewOfANewKernel(t *testing.T) {
	k, _ := impl.KernelNew(2)
	for text, want := range map[string]string{
		"0":           "view 0\n",
		"0,5:3":       "view 0,5:3\n",
		"1,7:0":       "view 1,7:0\n",
		"1":           "view 1\nthread 1 1 2 0\nthread 2 1 2 0\nobject 1 3 0 1 0\n",
		"1,7:2,9:3":   "view 1,7:2,9:3\nthread 1 1 2 0\nthread 2 1 2 0\nobject 1 3 0 1 0\n",
		"3,1:1,9:2":   "view 3,1:1,9:2\nthread 1 1 2 0\nthread 2 1 2 0\nobject 1 3 0 1 0\n",
		"3,1:1,9:0":   "view 3,1:1,9:0\n",
		"2,9998:3":    "view 2,9998:3\nthread 1 1 2 0\nthread 2 1 2 0\nobject 1 3 0 1 0\n",
		"3,1:0,999:1": "view 3,1:0,999:1\n",
	} {
		if v := impl.ViewOf(k, mustRead(t, text)); v != want {
			t.Errorf("seen by %s: %q, not %q", text, v, want)
		}
	}
}

func TestSeen(t *testing.T) {
	k := gallery()
	one := []int64{1, 1001, 1002, 1004, 1005, 1007, 1008, 1010, 1012, 4030}
	var all []int64
	for _, x := range k.Objects {
		all = append(all, x.Id)
	}
	for text, want := range map[string][]int64{
		"0":               {1004, 1012},
		"0,1:3,1001:3":    {1004, 1012},
		"1":               one,
		"1,7:2":           one,
		"1,7:0":           {1004, 1012},
		"1,1001:2":        all,
		"1,1001:3":        all,
		"2":               all,
		"3":               all,
		"3,1001:1":        one,
		"3,1001:2":        all,
		"3,1001:0":        {1004, 1012},
		"2,1000:3,1001:1": one,
		"2,1001:1,1002:3": one,
		"1,1000:2,1001:2": all,
		"1,1000:2,1002:2": one,
		"2,9999:0":        {1004, 1012},
		"0,1001:2":        {1004, 1012},
	} {
		if got := impl.Seen(k, mustRead(t, text)); !slices.Equal(got, want) {
			t.Errorf("seen by %s: %v, not %v", text, got, want)
		}
	}
	fresh, _ := impl.KernelNew(1)
	if none, root := impl.Seen(fresh, label(0)), impl.Seen(fresh, label(1)); len(none) != 0 || !slices.Equal(root, []int64{impl.RootId}) {
		t.Error(none, root)
	}
}

// A thread is felt through what it owns, though its label is not below the observer's.
func TestAThreadIsFeltByWhatItOwns(t *testing.T) {
	k, _ := impl.KernelNew(1)
	felt := func(owned ...int64) bool {
		k.Threads[0].Label, k.Threads[0].Owns = label(1, impl.Cat{Id: 5, Level: 3}, impl.Cat{Id: 8, Level: 2}), owned
		return strings.Contains(impl.ViewOf(k, label(1)), "\nthread 1 1,5:3,8:2 2 0"+behindBlanks(owned)+"\n")
	}
	if !felt(5, 8) || !felt(4, 5, 8, 9) || felt(5) || felt(8) || felt() || felt(4, 6, 9) {
		t.Error("felt by one of two, or not felt by both")
	}
	k.Threads[0].Label, k.Threads[0].Owns = label(2), []int64{5}
	if v := impl.ViewOf(k, label(1)); v != "view 1\nobject 1 3 0 1 0\n" {
		t.Errorf("%q: no category lets a base flow", v)
	}
}

func TestTidy(t *testing.T) {
	one, high := label(1), secret()
	for name, c := range map[string]struct {
		objects []impl.Object
		o       impl.Label
		want    bool
	}{
		"the root alone, seen":          {[]impl.Object{rootBox(one)}, one, true},
		"the root alone, not seen":      {[]impl.Object{rootBox(high)}, one, true},
		"all seen":                      {[]impl.Object{rootBox(one), boxIn(1, 1001, high), segmentIn(1001, 1002, one, "")}, high, true},
		"none seen":                     {[]impl.Object{rootBox(one), boxIn(1, 1001, high), segmentIn(1001, 1002, one, "")}, label(0), true},
		"seen, in a box that is not":    {[]impl.Object{rootBox(one), boxIn(1, 1001, high), segmentIn(1001, 1002, one, "")}, one, false},
		"a box, in a box that is not":   {[]impl.Object{rootBox(one), boxIn(1, 1001, high), boxIn(1001, 1002, one)}, one, false},
		"not seen, in a box that is":    {[]impl.Object{rootBox(one), boxIn(1, 1001, one), segmentIn(1001, 1002, high, "")}, one, true},
		"in a root that is not seen":    {[]impl.Object{rootBox(high), segmentIn(1, 1001, one, "")}, one, false},
		"the box has the higher number": {[]impl.Object{rootBox(one), segmentIn(1002, 1001, one, ""), boxIn(1, 1002, high)}, one, false},
		"the last one of many":          {[]impl.Object{rootBox(one), boxIn(1, 1001, high), boxIn(1, 1002, one), queueIn(1002, 1003, one), queueIn(1001, 1004, one)}, one, false},
		"a box deep down":               {[]impl.Object{rootBox(one), boxIn(1, 1001, one), boxIn(1001, 1002, high), boxIn(1002, 1003, high), gateIn(1003, 1004, one, one)}, one, false},
		"seen boxes, in one that is not": {
			[]impl.Object{rootBox(one), boxIn(1, 1001, high), boxIn(1001, 1002, one), boxIn(1002, 1003, one)}, one, false},
	} {
		k := impl.Kernel{Threads: []impl.Thread{{Id: 1, Label: one, Clear: one, Made: 4}}, Objects: c.objects}
		if got := impl.Tidy(k, c.o); got != c.want || !impl.KernelOk(k) {
			t.Errorf("%s: %v, not %v", name, got, c.want)
		}
	}
}

func checkWrongView(t *testing.T, name string, k impl.Kernel, o impl.Label) {
	t.Helper()
	if seen := impl.Seen(k, o); len(seen) != 0 {
		t.Errorf("%s: %v are seen", name, seen)
	}
	if impl.Tidy(k, o) {
		t.Errorf("%s: it is tidy", name)
	}
	if v := impl.ViewOf(k, o); v != "" {
		t.Errorf("%s: the view is %q", name, v)
	}
}

func TestViewsOfWhatIsNotRight(t *testing.T) {
	for name, k := range wrongKernels() {
		checkWrongView(t, name, k, label(3))
		checkWrongView(t, name, k, label(0))
		checkWrongView(t, name+", and the label", k, label(-1))
	}
	for name, o := range wrongLabels() {
		checkWrongView(t, name, gallery(), o)
		k, _ := impl.KernelNew(1)
		checkWrongView(t, name, k, o)
	}
}

func checkViewByWords(t *testing.T, name string, k impl.Kernel, o impl.Label) {
	t.Helper()
	if got, want := impl.Seen(k, o), seenIn(k, o); !slices.Equal(got, want) {
		t.Errorf("%s: seen by %v: %v, not %v, of\n%s", name, o, got, want, kernelText(k))
	}
	if got, want := impl.Tidy(k, o), tidyIn(k, o); got != want {
		t.Errorf("%s: tidy for %v: %v, not %v, of\n%s", name, o, got, want, kernelText(k))
	}
	if got, want := impl.ViewOf(k, o), viewIn(k, o); got != want {
		t.Errorf("%s: the view of %v is\n%q, not\n%q, of\n%s", name, o, got, want, kernelText(k))
	}
}

func TestViewsByTheDocumentsWords(t *testing.T) {
	for name, k := range rightKernels() {
		for _, o := range append(observers(), someLabels(20, 50)...) {
			checkViewByWords(t, name, k, o)
		}
	}
	r := rand.New(rand.NewSource(51))
	met := map[bool]int{}
	for range 300 {
		k := someKernel(r)
		for _, o := range observers() {
			checkViewByWords(t, "some kernel", k, o)
			checkViewByWords(t, "some tidy kernel", tidied(k, o), o)
			met[tidyIn(k, o)]++
		}
		if t.Failed() {
			t.FailNow()
		}
	}
	if met[true] < 100 || met[false] < 100 {
		t.Errorf("too few are tidy, or too few are not: %v", met)
	}
}

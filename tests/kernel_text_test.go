package tests

import (
	"math/rand"
	"slices"
	"strings"
	"testing"

	"loop.example/g00272/impl"
)

const (
	newText  = "thread 1 1 2 0\nobject 1 3 0 1 0\n"
	rootText = "object 1 3 0 1 0\n"
)

func smallLines() []string {
	return []string{
		"thread 2 1 2 10 5 2001",
		"thread 5 1,5:3 3 1",
		"object 1 3 0 1 0",
		"object 2002 3 2010 1,5:3 0",
		"object 2003 1 2002 1,5:3 0", "data data",
		"object 2004 2 2002 1 0", "item a", "item ", "item b",
		"object 2005 4 5001 1 1,5:3 5 2001",
		"object 2010 3 5001 0 0",
		"object 5001 3 1 1 0",
	}
}

func galleryLines() []string {
	return []string{
		"thread 1 1 2 12 7 1001",
		"thread 3 1,1001:2 2 0 1001",
		"thread 4 1,1001:2 3,5:0 30",
		"thread 9 0 0 0 21 22 23 24 25 26 27 28 29 30",
		"object 1 3 0 1 0",
		"object 1001 1 1 1 0", "data two words ~",
		"object 1002 1 1 1 0",
		"object 1003 1 1 1,1001:2 0", "data secret",
		"object 1004 2 1 0 0", "item a", "item ", "item b c", "item ", "item  ",
		"object 1005 2 1 1 0",
		"object 1006 2 1 1,1001:2 0", "item hidden", "item ",
		"object 1007 4 1 1 3,1001:0 7 1001",
		"object 1008 4 1 1 0",
		"object 1009 4 1 1,1001:2 1,1001:2 7",
		"object 1010 3 1 1 0",
		"object 1011 3 1010 1,1001:2 0",
		"object 1012 3 1010 0 0",
		"object 4001 1 1011 1,1001:2 0", "data deep",
		"object 4002 1 1010 1,1001:2 0",
		"object 4030 2 1010 1 0", "item ",
	}
}

// blankKernel has data and items of blanks, and such as look like lines.
func blankKernel() impl.Kernel {
	return impl.Kernel{Threads: []impl.Thread{{Id: 9, Clear: label(3), Made: 30}}, Objects: []impl.Object{
		rootBox(label(0)),
		segmentIn(1, 9001, label(0), " "), segmentIn(1, 9002, label(0), "   "), segmentIn(1, 9003, label(0), " a  b "), segmentIn(1, 9004, label(0), "data"), segmentIn(1, 9005, label(0), "item x"),
		queueIn(1, 9006, label(0)), queueIn(1, 9007, label(0), "", " ", "  ", "", " c", "c ", "item ", "data d"),
		queueIn(1, 9030, label(0), "object 1 3 0 1 0", "thread 1 1 2 0"),
	}}
}

func blankLines() []string {
	return []string{
		"thread 9 0 3 30",
		"object 1 3 0 0 0",
		"object 9001 1 1 0 0", "data  ",
		"object 9002 1 1 0 0", "data    ",
		"object 9003 1 1 0 0", "data  a  b ",
		"object 9004 1 1 0 0", "data data",
		"object 9005 1 1 0 0", "data item x",
		"object 9006 2 1 0 0",
		"object 9007 2 1 0 0", "item ", "item  ", "item   ", "item ", "item  c", "item c ", "item item ", "item data d",
		"object 9030 2 1 0 0", "item object 1 3 0 1 0", "item thread 1 1 2 0",
	}
}

func TestKernelTextsByteByByte(t *testing.T) {
	one, _ := impl.KernelNew(1)
	three, _ := impl.KernelNew(3)
	for name, c := range map[string]struct {
		k    impl.Kernel
		want string
	}{
		"a new one":   {one, newText},
		"new threads": {three, "thread 1 1 2 0\nthread 2 1 2 0\nthread 3 1 2 0\nobject 1 3 0 1 0\n"},
		"small":       {smallKernel(), joined(smallLines()...)},
		"gallery":     {gallery(), joined(galleryLines()...)},
		"blanks":      {blankKernel(), joined(blankLines()...)},
	} {
		if got := impl.KernelText(c.k); got != c.want {
			t.Errorf("%s: the text is\n%q, not\n%q", name, got, c.want)
		}
		if got, ok := impl.ReadKernel(c.want); !ok || kernelText(got) != kernelText(c.k) {
			t.Errorf("%s: read as %v\n%s, not as\n%s", name, ok, kernelText(got), kernelText(c.k))
		}
	}
}

// An observer that sees and feels all has the same lines, but for the first and for kids.
func TestKernelTextsAreViewsWithoutKids(t *testing.T) {
	r := rand.New(rand.NewSource(150))
	for range 200 {
		k := someKernel(r)
		for i := range k.Threads {
			k.Threads[i].Label = label(pick(r, []int64{0, 1, 2, 3}))
		}
		// Without boxes but the root there are no kids but in its line.
		k.Objects = slices.DeleteFunc(k.Objects, func(o impl.Object) bool { return o.Id != impl.RootId && o.Kind == impl.ObBox })
		for i := range k.Objects[1:] {
			k.Objects[1+i].Up = impl.RootId
		}
		view := impl.ViewOf(k, label(3))
		want := strings.Replace(strings.TrimPrefix(view, "view 3\n"), "object 1 3 0 1 0"+behindBlanks(impl.KidsOf(k, impl.RootId))+"\n", rootText, 1)
		if got := impl.KernelText(k); got != want || view == want {
			t.Errorf("the text is %q, the view %q", got, view)
		}
	}
}

func TestRightKernelsComeBack(t *testing.T) {
	for name, k := range rightKernels() {
		checkKernelComesBack(t, name, k)
	}
	for _, data := range blankTexts() {
		k := smallKernel()
		k.Objects[2].Data, k.Objects[3].Items = data, []string{data, "", data}
		checkKernelComesBack(t, "data", k)
		k.Objects[3].Items = slices.Repeat([]string{data}, impl.MaxItems)
		checkKernelComesBack(t, "items", k)
	}
	for many := range impl.MaxOwns + 1 {
		k := smallKernel()
		k.Threads[0].Owns, k.Threads[1].Owns, k.Objects[4].Owns = rising(1, int64(many)), rising(9990, int64(many)), rising(95, int64(many))
		checkKernelComesBack(t, "owns", k)
	}
	for many := range impl.MaxCats + 1 {
		k := smallKernel()
		l, other := run(1, 9988, int64(many), 3), run(0, 1, int64(many), 2)
		k.Threads[0].Label, k.Threads[0].Clear, k.Objects[0].Label, k.Objects[4].Label, k.Objects[4].Clear = l, other, other, l, other
		checkKernelComesBack(t, "labels", k)
	}
}

func TestTheGreatestKernelComesBack(t *testing.T) {
	k := greatest()
	checkKernelComesBack(t, "greatest", k)
	if size := len(impl.KernelText(k)); size < 100000 || size > topText/3 {
		t.Errorf("its text has %d bytes", size)
	}
}

func TestNoTextOfKernelsThatAreNotRight(t *testing.T) {
	for name, k := range wrongKernels() {
		if text := impl.KernelText(k); text != "" {
			t.Errorf("%s: the text is %q", name, text)
		}
		checkNoKernel(t, name, kernelTextIn(k))
	}
	for _, data := range wrongTexts() {
		for _, place := range []int{2, 3} {
			k := smallKernel()
			if k.Objects[place].Kind == impl.ObSegment {
				k.Objects[place].Data = data
			} else {
				k.Objects[place].Items[1] = data
			}
			if text := impl.KernelText(k); text != "" {
				t.Errorf("%q as data: the text is %q", data, text)
			}
			checkNoKernel(t, "data", kernelTextIn(k))
		}
	}
}

// A wrong kernel has no text, though its words are those of a right one.
func TestALineFeedInDataIsNoNewLine(t *testing.T) {
	for _, items := range [][]string{{"a\nitem b"}, {"a\nitem ", "c"}, {"a\nobject 2005 1 1 1 0"}} {
		k := smallKernel()
		k.Objects = append(k.Objects[:3:3], k.Objects[5:]...)
		k.Objects = slices.Insert(k.Objects, 3, queueIn(2002, 2004, label(1), items...))
		if text := impl.KernelText(k); text != "" {
			t.Errorf("%q: the text is %q", items, text)
		}
		if text := kernelTextIn(k); !readsKernel(t, text) {
			t.Errorf("%q is a kernel's text", text)
		}
	}
}

func TestNoKernelOfOtherTexts(t *testing.T) {
	for name, text := range map[string]string{
		"nothing":                    "",
		"a line feed":                "\n",
		"a blank":                    " ",
		"no object":                  "thread 1 1 2 0\n",
		"no thread":                  rootText,
		"no line feed at the end":    strings.TrimSuffix(newText, "\n"),
		"two line feeds at the end":  newText + "\n",
		"a line feed ahead":          "\n" + newText,
		"a line feed between":        "thread 1 1 2 0\n\nobject 1 3 0 1 0\n",
		"no line feed between":       "thread 1 1 2 0object 1 3 0 1 0\n",
		"a blank in its place":       "thread 1 1 2 0 object 1 3 0 1 0\n",
		"carriage returns":           "thread 1 1 2 0\r\nobject 1 3 0 1 0\r\n",
		"a byte of zero behind":      newText + "\x00",
		"a blank behind":             newText + " ",
		"a blank ahead":              " " + newText,
		"a line of a blank":          newText + " \n",
		"a view":                     "view 3\n" + newText,
		"a view behind":              newText + "view 3\n",
		"another line":               newText + "fly\n",
		"an object ahead":            rootText + "thread 1 1 2 0\n",
		"a thread behind":            newText + "thread 2 1 2 0\n",
		"the root twice":             newText + rootText,
		"a thread twice":             "thread 1 1 2 0\n" + newText,
		"threads that fall":          "thread 2 1 2 0\n" + newText,
		"thread 0":                   "thread 0 1 2 0\n" + newText,
		"thread 10":                  "thread 1 1 2 0\nthread 10 1 2 0\n" + rootText,
		"made 31":                    "thread 1 1 2 31\n" + rootText,
		"greater letters":            strings.ToUpper(newText),
		"a greater letter":           "Thread 1 1 2 0\n" + rootText,
		"a longer word":              "threads 1 1 2 0\n" + rootText,
		"a shorter word":             "thrad 1 1 2 0\n" + rootText,
		"the word alone":             "thread\n" + rootText,
		"the word and a blank":       "thread \n" + rootText,
		"the second word alone":      "thread 1 1 2 0\nobject\n",
		"the second and a blank":     "thread 1 1 2 0\nobject \n",
		"data ahead":                 "data x\n" + newText,
		"data of a thread":           "thread 1 1 2 0\ndata x\n" + rootText,
		"an item of a thread":        "thread 1 1 2 0\nitem x\n" + rootText,
		"data of a box":              newText + "data x\n",
		"an item of a box":           newText + "item x\n",
		"an item of a box, empty":    newText + "item \n",
		"owns of a box":              "thread 1 1 2 0\nobject 1 3 0 1 0 5\n",
		"a clear of a box":           "thread 1 1 2 0\nobject 1 3 0 1 1\n",
		"kids of the root":           "thread 1 1 2 1\nobject 1 3 0 1 0 1001\nobject 1001 1 1 1 0\n",
		"a step":                     "1 1 0 0 0 0 0 ",
		"a step on a line":           newText + "1 1 0 0 0 0 0 \n",
		"the root with another id":   "thread 1 1 2 0\nobject 2 3 0 1 0\n",
		"the root with another up":   "thread 1 1 2 0\nobject 1 3 1 1 0\n",
		"the root with another kind": "thread 1 1 2 0\nobject 1 4 0 1 0\n",
	} {
		checkNoKernel(t, name, text)
	}
	if !readsKernel(t, newText) {
		t.Errorf("%q is a kernel", newText)
	}
}

// kernelWith has the lines of one thread, of the root and of what else is given.
func kernelWith(lines ...string) string {
	return joined(append([]string{"thread 1 1 2 30 5 7", "object 1 3 0 1 0"}, lines...)...)
}

func TestNoKernelOfOtherLines(t *testing.T) {
	segment, queue, gate := "object 1001 1 1 1 0", "object 1002 2 1 1 0", "object 1003 4 1 1 2 5 7"
	long := longText("x", impl.MaxData+1)
	for name, lines := range map[string][]string{
		"an empty line of data":           {segment, "data "},
		"data without a blank":            {segment, "data"},
		"data twice":                      {segment, "data x", "data y"},
		"data twice, one empty":           {segment, "data x", "data "},
		"empty, then data":                {segment, "data ", "data x"},
		"data of 41 bytes":                {segment, "data " + long},
		"an item of a segment":            {segment, "item x"},
		"an item behind data":             {segment, "data x", "item y"},
		"an item ahead of data":           {segment, "item y", "data x"},
		"a blank ahead of data":           {segment, " data x"},
		"another word for data":           {segment, "date x"},
		"data on the line of its object":  {segment + " x"},
		"a tab for a blank":               {segment, "data\tx"},
		"data of a queue":                 {queue, "data x"},
		"data of a queue, items behind":   {queue, "data x", "item y"},
		"data of a queue, empty":          {queue, "data ", "item y"},
		"data behind items":               {queue, "item y", "data x"},
		"data between items":              {queue, "item y", "data x", "item z"},
		"an item without a blank":         {queue, "item"},
		"an item without a blank, last":   {queue, "item x", "item"},
		"an item of 41 bytes":             {queue, "item " + long},
		"nine items":                      slices.Concat([]string{queue}, texts(impl.MaxItems+1, "item x")),
		"nine empty items":                slices.Concat([]string{queue}, texts(impl.MaxItems+1, "item ")),
		"a line between items":            {queue, "item x", "", "item y"},
		"a thread between items":          {queue, "item x", "thread 2 1 2 0", "item y"},
		"items of another word":           {queue, "items x"},
		"data of a gate":                  {gate, "data x"},
		"an item of a gate":               {gate, "item x"},
		"owns that fall":                  {"object 1003 4 1 1 2 7 5"},
		"owns alike":                      {"object 1003 4 1 1 2 5 5"},
		"owns 0":                          {"object 1003 4 1 1 2 0"},
		"owns 10000":                      {"object 1003 4 1 1 2 10000"},
		"eleven owns":                     {"object 1003 4 1 1 2" + behindBlanks(rising(1, impl.MaxOwns+1))},
		"owns of a segment":               {segment + " 5"},
		"owns with a comma":               {"object 1003 4 1 1 2 5,7"},
		"a blank behind":                  {segment + " "},
		"a blank behind owns":             {gate + " "},
		"a blank ahead":                   {" " + segment},
		"two blanks":                      {"object 1001 1 1 1  0"},
		"two blanks ahead of owns":        {"object 1003 4 1 1 2  5 7"},
		"no blank":                        {"object10011 1 1 0"},
		"a word less":                     {"object 1001 1 1 1"},
		"objects that fall":               {queue, segment},
		"objects alike":                   {segment, segment},
		"kind 0":                          {"object 1001 0 1 1 0"},
		"kind 5":                          {"object 1001 5 1 1 0"},
		"up 0":                            {"object 1001 1 0 1 0"},
		"up is none":                      {"object 1001 1 1009 1 0"},
		"up is a segment":                 {segment, "object 1002 1 1001 1 0"},
		"up goes round":                   {"object 1001 3 1002 1 0", "object 1002 3 1001 1 0"},
		"id of no thread":                 {"object 2001 1 1 1 0"},
		"id past made":                    {"object 1031 1 1 1 0"},
		"id 1000":                         {"object 1000 1 1 1 0"},
		"a line without a word":           {segment, ""},
		"a line of another word, at last": {segment, "end"},
	} {
		checkNoKernel(t, name, kernelWith(lines...))
	}
	for _, lines := range [][]string{nil, {segment}, {segment, "data x"}, {segment, "data  "}, {queue}, {queue, "item "}, {queue, "item x", "item  "}, {gate}, {segment, queue, gate}, {"object 1003 4 1 1 2"}} {
		if !readsKernel(t, kernelWith(lines...)) {
			t.Errorf("%q are a kernel's lines", lines)
		}
	}
}

// Each word of a thread's and of an object's line is put in another's place.
func TestNoKernelOfWrongNumbersAndLabels(t *testing.T) {
	lines := []string{"thread 1 1 2 30 5", "object 1 3 0 1 0", "object 1001 4 1 1,5:2 1,5:2 5"}
	if !readsKernel(t, joined(lines...)) {
		t.Fatal("the lines are a kernel's")
	}
	isLabel := map[[2]int]bool{{0, 2}: true, {0, 3}: true, {1, 4}: true, {1, 5}: true, {2, 4}: true, {2, 5}: true}
	for i, line := range lines {
		words := strings.Split(line, " ")
		for place := 1; place < len(words); place++ {
			wrong := noNumbers()
			if isLabel[[2]int{i, place}] {
				wrong = noLabels()
			}
			for _, word := range wrong {
				others := slices.Clone(words)
				others[place] = word
				all := slices.Clone(lines)
				all[i] = strings.Join(others, " ")
				checkNoKernel(t, "a wrong word", joined(all...))
			}
		}
	}
}

// lineEdits hands on the lines with one of them gone, twice, cut, at another place, or with another blank.
func lineEdits(lines []string, hand func(string)) {
	for i, line := range lines {
		ahead, behind := lines[:i], lines[i+1:]
		hand(joined(slices.Concat(ahead, behind)...))
		hand(joined(slices.Concat(ahead, []string{line}, lines[i:])...))
		hand(joined(slices.Concat(ahead, []string{""}, lines[i:])...))
		for to := range lines {
			others := slices.Concat(ahead, behind)
			hand(joined(slices.Insert(others, to, line)...))
			hand(joined(slices.Insert(slices.Clone(lines), to, line)...))
			swapped := slices.Clone(lines)
			swapped[i], swapped[to] = swapped[to], swapped[i]
			hand(joined(swapped...))
		}
		for at := range len(line) + 1 {
			hand(joined(slices.Concat(ahead, []string{line[:at]}, behind)...))
			hand(joined(slices.Concat(ahead, []string{line[at:]}, behind)...))
			hand(joined(slices.Concat(ahead, []string{line[:at], line[at:]}, behind)...))
			hand(joined(slices.Concat(ahead, []string{line[:at] + " " + line[at:]}, behind)...))
			hand(joined(slices.Concat(ahead, []string{line[:at]}, behind)...) + line[at:])
		}
	}
}

func TestKernelTextsWithOtherLines(t *testing.T) {
	t.Parallel()
	for name, lines := range map[string][]string{"small": smallLines(), "gallery": galleryLines(), "blanks": blankLines()} {
		read := map[bool]int{}
		lineEdits(lines, func(other string) { read[readsKernel(t, other)]++ })
		if read[true] < 50 || read[false] < 500 || t.Failed() {
			t.Errorf("%s: %v", name, read)
		}
	}
}

func TestKernelTextsWithOtherBytes(t *testing.T) {
	t.Parallel()
	near := []byte{0, 9, 10, 13, ' ', '!', ',', '-', '.', '0', '1', '2', '3', '4', '5', '9', ':', ';', 'a', 'i', 't', '~', 127, 128, 160, 255}
	for name, c := range map[string]struct {
		text  string
		bytes []byte
	}{
		"a new one": {newText, allBytes()},
		"lines":     {kernelWith("object 1001 1 1 1,5:2 0", "data a b", "object 1002 2 1 1 0", "item ", "item  c", "object 1003 4 1 1 2 5 7"), allBytes()},
		"small":     {joined(smallLines()...), near},
		"gallery":   {joined(galleryLines()...), near},
	} {
		read := map[bool]int{}
		byteEdits(c.text, c.bytes, func(other string) { read[readsKernel(t, other)]++ })
		for i := range len(c.text) {
			if piece := c.text[:i]; readsKernel(t, piece) && !strings.HasSuffix(piece, "\n") {
				t.Errorf("%q is read: its last line is cut", piece)
			}
			readsKernel(t, c.text[i:])
		}
		if read[true] < 5 || read[false] < 500 || t.Failed() {
			t.Errorf("%s: %v", name, read)
		}
	}
}

// No right kernel has so long a text, so what is asked is that these are refused, at the bound and past it, and soon.
func TestNoKernelOfLongTexts(t *testing.T) {
	t.Parallel()
	text := impl.KernelText(greatest())
	for name, piece := range map[string]string{
		"blanks": " ", "line feeds": "\n", "threads": "thread 1 1 2 0\n", "the words of threads": "thread \n", "objects": "object 1001 3 1 1 0\n", "the words of objects": "object \n",
		"data": "data x\n", "items": "item \n", "the word item": "item", "numbers": " 5", "digits": "5", "noughts": "0", "categories": ",5:2", "bytes of zero": "\x00", "greatest": text, "a new one": newText,
	} {
		for _, front := range []string{"", newText[:14], newText[:15], newText, newText[:len(newText)-1], text, text[:len(text)-1], kernelWith("object 1001 1 1 1 0", "data x")[:60]} {
			for _, size := range []int{topText - 1, topText, topText + 1, 2 * topText} {
				long := (front + longText(piece, size/len(piece)+1))[:size]
				checkNoKernel(t, name, long)
				checkNoKernel(t, name, long[:size-1]+"\n")
			}
		}
	}
}

func TestKernelsComeBackFromTheirTexts(t *testing.T) {
	t.Parallel()
	r := rand.New(rand.NewSource(151))
	kinds := map[int64]int{}
	for range 1500 {
		k := anyKernel(r)
		checkKernelComesBack(t, "any kernel", k)
		for _, o := range k.Objects {
			kinds[o.Kind]++
		}
		if t.Failed() {
			t.FailNow()
		}
	}
	for kind := int64(impl.ObSegment); kind <= impl.ObGate; kind++ {
		if kinds[kind] < 1000 {
			t.Errorf("kind %d too seldom", kind)
		}
	}
}

// What came back does what it did: a kernel and a step that went through their texts answer as they would have.
func TestStepsOfWhatCameBack(t *testing.T) {
	t.Parallel()
	eachSomeStep(t, 152, func(k impl.Kernel, s impl.Step, then impl.Kernel, code int64, told string) {
		kernel, kernelOk := impl.ReadKernel(impl.KernelText(k))
		step, stepOk := impl.ReadStep(impl.StepText(s))
		if !kernelOk || !stepOk {
			t.Fatalf("%v of\n%s does not come back", s, kernelText(k))
		}
		after, c, text := impl.Done(kernel, step)
		if c != code || text != told || impl.KernelText(after) != impl.KernelText(then) {
			t.Errorf("%v told %d %q, and %d %q from its text", s, code, told, c, text)
		}
	})
}

// Two kernels that are not the same have not the same text.
func TestTextsTellKernelsApart(t *testing.T) {
	seen := map[string]string{}
	add := func(k impl.Kernel) {
		text, fields := impl.KernelText(k), kernelText(k)
		if before, ok := seen[text]; ok && before != fields {
			t.Errorf("%q is the text of\n%s and of\n%s", text, before, fields)
		}
		seen[text] = fields
	}
	for _, k := range rightKernels() {
		add(k)
	}
	for _, data := range blankTexts() {
		k := smallKernel()
		k.Objects[2].Data = data
		add(k)
		for _, second := range blankTexts() {
			k := smallKernel()
			k.Objects[3].Items = []string{data, second}
			add(k)
		}
		k.Objects[3].Items = []string{data}
		add(k)
	}
	if many := len(blankTexts()); len(seen) < many*many+2*many {
		t.Error(len(seen))
	}
}

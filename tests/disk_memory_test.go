package tests

import (
	"fmt"
	"maps"
	"math/rand"
	"slices"
	"sync"
	"testing"

	"loop.example/g00272/impl"
)

func memoryDisks() map[string]impl.Disk {
	out := rightDisks()
	maps.Copy(out, wrongDisks())
	k := newKernel(2)
	out["a journal"] = with(journalOn(baseIn(3, k), logIn(4, journalStep(0))), put("log", logIn(5, journalStep(1))), put("base.new", "rest"))
	out["a torn one"] = with(journalOn(baseIn(3, k), logIn(4, journalStep(0))), put("log", "?"), put("log", logIn(5, journalStep(1))))
	out["a broken one"] = with(journalOn("?"), put("log", "?"))
	out["a full one"] = fullOps(journalOn(baseIn(3, k)), 0)
	out["lists that are empty"] = impl.Disk{Live: []impl.File{}, Safe: []impl.File{}, Ops: []impl.DOp{}}
	return out
}

func memoryOps() []impl.DOp {
	return []impl.DOp{{}, put("a", "y"), put("new", ""), put("new", longText("x", impl.MaxBytes+1)), move("a", "b"), move("a", "a"), move("none", "b"), remove("a"), remove("none")}
}

func memoryActs() []impl.Act {
	rich := making(1, impl.SyMake, 1, run(1, 11, 3, 2))
	acts := []impl.Act{{}, starting(2), starting(0), logging(rich), syncing(gating(1, 1, run(1, 11, 3, 2), run(2, 5, 3, 0), 0)), logging(raising(1, run(1, 1, impl.MaxCats+1, 2))), saving(), opening(), crashing(0), crashing(9, 0), crashing(9, 0, 1), crashing(9, 1), crashing(9, 1, 0), crashing(-1)}
	for _, power := range []int64{0, 1, 3} {
		acts = append(acts, powered(starting(2), power), powered(saving(), power), powered(syncing(rich), power), powered(crashing(9, 1), power))
	}
	return acts
}

// A diskCall is one call that answers a disk, and what else it answers as a text.
type diskCall func(d impl.Disk) (impl.Disk, string)

func diskCalls() map[string]diskCall {
	out := map[string]diskCall{
		"Sync": func(d impl.Disk) (impl.Disk, string) { return impl.Sync(d), "" },
		"asks": func(d impl.Disk) (impl.Disk, string) {
			text, ok := impl.ReadFile(d, "a")
			k, n, code := impl.JournalView(d)
			return impl.Disk{}, fmt.Sprint(impl.DiskOk(d), text, ok, kernelText(k), n, code)
		},
	}
	for i, op := range memoryOps() {
		out[fmt.Sprint("Do ", i)] = func(d impl.Disk) (impl.Disk, string) {
			then, code := impl.Do(d, op)
			return then, fmt.Sprint(code)
		}
	}
	for i, name := range []string{"a", "base", "none", "", longText("n", 97)} {
		out[fmt.Sprint("Replace ", i)] = func(d impl.Disk) (impl.Disk, string) {
			then, code := impl.Replace(d, name, "new text")
			return then, fmt.Sprint(code)
		}
	}
	return out
}

func checkDiskMemory(t *testing.T, what string, plain impl.Disk, call diskCall) {
	t.Helper()
	d := spareAll(plain)
	ahead := wholeText(d)
	first, told := call(d)
	second, again := call(d)
	if wholeText(d) != ahead {
		t.Errorf("%s: the disk was written into", what)
	}
	if anyMeet(rooms(d), rooms(first)) || anyMeet(rooms(first), rooms(second)) || twoMeet(rooms(first)) {
		t.Errorf("%s: an answer shares memory", what)
	}
	third, bare := call(plain)
	if told != again || told != bare || !sameDisk(first, second) || !sameDisk(first, third) {
		t.Errorf("%s: %s, again %s, without spare room %s", what, told, again, bare)
	}
	clear(first.Live[:cap(first.Live)])
	clear(first.Safe[:cap(first.Safe)])
	clear(first.Ops[:cap(first.Ops)])
	if wholeText(d) != ahead || !sameDisk(second, third) {
		t.Errorf("%s: what was handed in was written over with the answer", what)
	}
}

func TestDisksAreNotWrittenInto(t *testing.T) {
	t.Parallel()
	for name, d := range memoryDisks() {
		for what, call := range diskCalls() {
			checkDiskMemory(t, name+", "+what, d, call)
		}
		for _, plain := range [][]int64{nil, {}, {0}, {0, 1}, {1, 0}, {-1}, {7}} {
			keep := spareAll(plain)
			ahead := wholeText(keep)
			checkDiskMemory(t, name+", Crash", d, func(d impl.Disk) (impl.Disk, string) {
				left, ok := impl.Crash(d, keep, 1)
				return left, fmt.Sprint(ok)
			})
			if wholeText(keep) != ahead {
				t.Errorf("%s: keep %v was written into", name, plain)
			}
		}
	}
}

func TestJournalsAreNotWrittenInto(t *testing.T) {
	t.Parallel()
	for name, d := range memoryDisks() {
		for i, plain := range memoryActs() {
			what := fmt.Sprint(name, ", act ", i)
			a := spareAll(plain)
			ahead := wholeText(a)
			checkDiskMemory(t, what, d, func(d impl.Disk) (impl.Disk, string) {
				then, code := impl.JournalDo(d, a)
				if anyMeet(rooms(a), rooms(then)) {
					t.Errorf("%s: the answer shares memory with the act", what)
				}
				return then, fmt.Sprint(code)
			})
			if wholeText(a) != ahead {
				t.Errorf("%s: the act was written into", what)
			}
		}
		for _, plain := range [][]impl.Act{nil, {}, memoryActs()} {
			list := spareAll(plain)
			ahead := wholeText(list)
			checkDiskMemory(t, name+", played", d, func(d impl.Disk) (impl.Disk, string) {
				then, codes := impl.JournalPlay(d, list)
				if anyMeet(rooms(list), append(rooms(then), rooms(codes)...)) || anyMeet(rooms(d), rooms(codes)) {
					t.Errorf("%s: an answer shares memory with the acts", name)
				}
				return then, fmt.Sprint(codes)
			})
			if wholeText(list) != ahead {
				t.Errorf("%s: the acts were written into", name)
			}
		}
	}
}

// One list may be handed in at two places: the answer has a list of its own at each.
func TestOneListOfFilesHandedInTwice(t *testing.T) {
	files := []impl.File{file("a", "x"), file("base", baseIn(0, newKernel(2)))}
	d := impl.Disk{Live: files, Safe: files}
	for what, call := range diskCalls() {
		if then, _ := call(d); twoMeet(rooms(then)) || anyMeet(rooms(d), rooms(then)) {
			t.Errorf("%s: lists share memory", what)
		}
	}
	for _, a := range memoryActs() {
		if then, code := impl.JournalDo(d, a); twoMeet(rooms(then)) || anyMeet(rooms(d), rooms(then)) {
			t.Errorf("act %d, told %d: lists share memory", a.Kind, code)
		}
	}
	if then, _ := impl.JournalPlay(d, nil); twoMeet(rooms(then)) || anyMeet(rooms(d), rooms(then)) {
		t.Error("no acts: lists share memory")
	}
}

func TestViewsOfAJournalAreNewMemory(t *testing.T) {
	for _, k := range []impl.Kernel{smallKernel(), gallery(), greatest()} {
		d := journalOn(baseIn(3, k), logIn(4, simple(1, impl.SyCat, none)))
		first, _, _ := impl.JournalView(d)
		second, _, _ := impl.JournalView(d)
		if anyMeet(rooms(first), rooms(second)) || twoMeet(rooms(first)) {
			t.Error("two lists share memory")
		}
	}
}

// A short text that is a piece of a long one would keep all of that.
func TestFramesAreNewMemory(t *testing.T) {
	data := longText("d", 50)
	f := impl.FrameOf(data)
	both, room := over(f + impl.FrameOf("x"))
	list, _ := impl.TakeFrames(both)
	again, _ := impl.TakeFrames(both)
	if meet(textRoom(data), textRoom(f)) || meet(textRoom(both), textRoom(list[0])) || meet(textRoom(both), textRoom(list[1])) {
		t.Error("an answer lies in an argument")
	}
	if anyMeet(rooms(list), rooms(again)) {
		t.Error("two answers share memory")
	}
	clear(room)
	if !slices.Equal(list, []string{data, "x"}) {
		t.Errorf("%q changed with the text", list)
	}
	d := with(impl.Disk{}, put("a", longText("d", 1000)))
	left, _ := impl.Crash(d, []int64{0}, 5)
	if meet(textRoom(d.Ops[0].Data), textRoom(left.Live[0].Data)) {
		t.Error("a piece of an op lies in it")
	}
}

// diskAnswers tells all that chapters 11 and 12 answer of some arguments.
func diskAnswers(d impl.Disk, a impl.Act, op impl.DOp) string {
	done, doCode := impl.Do(d, op)
	left, ok := impl.Crash(d, a.Keep, a.Torn)
	text, found := impl.ReadFile(d, op.Name)
	replaced, replaceCode := impl.Replace(d, op.Name, op.Data)
	acted, actCode := impl.JournalDo(d, a)
	ended, codes := impl.JournalPlay(d, []impl.Act{a, opening(), a})
	k, n, seen := impl.JournalView(acted)
	frames, end := impl.TakeFrames(impl.FrameOf(op.Data) + text)
	return fmt.Sprint(impl.DiskOk(d), diskText(done), doCode, diskText(impl.Sync(d)), diskText(left), ok, text, found, diskText(replaced), replaceCode,
		diskText(acted), actCode, diskText(ended), codes, kernelText(k), n, seen, len(frames), end)
}

// The same arguments give the same answers, also from many sides at once.
func TestDisksBesideEachOther(t *testing.T) {
	type call struct {
		d    impl.Disk
		a    impl.Act
		op   impl.DOp
		want string
	}
	r := rand.New(rand.NewSource(510))
	wrong := wrongDisks()
	var calls []call
	for i := range 60 {
		d := someDiskFor(r)
		c := call{d: spareAll(d), a: spareAll(someAct(r, d)), op: someOp(r)}
		if i%6 == 0 {
			c.d = spareAll(wrong["found too late"])
		}
		c.want = diskAnswers(c.d, c.a, c.op)
		calls = append(calls, c)
	}
	var all sync.WaitGroup
	for side := range 8 {
		all.Go(func() {
			for i := range calls {
				c := calls[(i+7*side)%len(calls)]
				if got := diskAnswers(c.d, c.a, c.op); got != c.want {
					t.Errorf("beside others: %s, alone: %s", got, c.want)
				}
			}
		})
	}
	all.Wait()
}

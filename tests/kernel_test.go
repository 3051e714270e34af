package tests

import (
	"math/rand"
	"slices"
	"testing"

	"loop.example/g00272/impl"
)

func TestRightKernels(t *testing.T) {
	for name, k := range rightKernels() {
		if !impl.KernelOk(k) {
			t.Errorf("%s: the kernel is right", name)
		}
	}
	if k := fullKernel(); len(k.Threads) != impl.MaxThread || len(k.Objects) != 271 || k.Objects[270].Id != 9030 {
		t.Error("the full kernel is not full")
	}
	r := rand.New(rand.NewSource(20))
	for range 300 {
		if k := someKernel(r); !impl.KernelOk(k) {
			t.Fatalf("the kernel is right:\n%s", kernelText(k))
		}
	}
}

func TestWrongKernelsAnswerNothing(t *testing.T) {
	for name, k := range wrongKernels() {
		if impl.KernelOk(k) {
			t.Errorf("%s: the kernel is not right", name)
		}
		for _, id := range []int64{0, 1, 2, 5, 2000, 2002, 2003, 5001, -1} {
			if o, ok := impl.ObjectOf(k, id); ok || objectText(o) != objectText(impl.Object{}) {
				t.Errorf("%s: ObjectOf %d is %v, %v", name, id, o, ok)
			}
			if x, ok := impl.ThreadOf(k, id); ok || threadText(x) != threadText(impl.Thread{}) {
				t.Errorf("%s: ThreadOf %d is %v, %v", name, id, x, ok)
			}
			if kids, under := impl.KidsOf(k, id), impl.Under(k, id); len(kids) != 0 || len(under) != 0 {
				t.Errorf("%s: of %d kids %v, under %v", name, id, kids, under)
			}
		}
	}
}

// A long way up, and a long round, within what KernelOk takes at all.
func TestLongWaysUp(t *testing.T) {
	k := fullKernel()
	for i := range k.Objects[1:] {
		k.Objects[1+i] = boxIn(k.Objects[i].Id, k.Objects[1+i].Id, label(1))
	}
	if !impl.KernelOk(k) || len(impl.Under(k, impl.RootId)) != 271 || !slices.Equal(impl.Under(k, 9029), []int64{9029, 9030}) {
		t.Error("each in the one ahead of it")
	}
	k.Objects[1].Up = 9030
	if impl.KernelOk(k) {
		t.Error("all but the root go round")
	}
	k = fullKernel()
	for i := range k.Objects[1:] {
		k.Objects[1+i] = boxIn(9030, k.Objects[1+i].Id, label(1))
	}
	k.Objects[270].Up = impl.RootId
	if !impl.KernelOk(k) || len(impl.KidsOf(k, 9030)) != 269 || !slices.Equal(impl.KidsOf(k, impl.RootId), []int64{9030}) {
		t.Error("all in the last one")
	}
}

func TestKernelNewHasItsThreadsAndTheRoot(t *testing.T) {
	for n := int64(1); n <= impl.MaxThread; n++ {
		want := impl.Kernel{Objects: []impl.Object{rootBox(label(1))}}
		for id := int64(1); id <= n; id++ {
			want.Threads = append(want.Threads, impl.Thread{Id: id, Label: label(1), Clear: label(2)})
		}
		k, ok := impl.KernelNew(n)
		if !ok || kernelText(k) != kernelText(want) || !impl.KernelOk(k) {
			t.Errorf("KernelNew(%d) is %v\n%s", n, ok, kernelText(k))
		}
		if !slices.Equal(impl.Under(k, impl.RootId), []int64{impl.RootId}) || len(impl.KidsOf(k, impl.RootId)) != 0 {
			t.Errorf("KernelNew(%d): something lies in the root", n)
		}
	}
	for _, n := range []int64{0, impl.MaxThread + 1, -1, 1000, lowest, highest} {
		if k, ok := impl.KernelNew(n); ok || !isNoKernel(k) {
			t.Errorf("KernelNew(%d) is %v, %v", n, k, ok)
		}
	}
}

func askedIds(k impl.Kernel) []int64 {
	out := []int64{lowest, -1, 0, 1, 2, 5, 1000, 1001, 2000, 2001, 9030, 9031, highest}
	for _, o := range k.Objects {
		out = append(out, o.Id, o.Id+1, -o.Id)
	}
	return out
}

func checkBelow(t *testing.T, name string, k impl.Kernel) {
	t.Helper()
	for _, id := range askedIds(k) {
		want, there := objectIn(k, id)
		if o, ok := impl.ObjectOf(k, id); ok != there || objectText(o) != objectText(want) {
			t.Fatalf("%s: ObjectOf %d is %v, %v", name, id, o, ok)
		}
		if kids := impl.KidsOf(k, id); !slices.Equal(kids, kidsIn(k, id)) {
			t.Fatalf("%s: KidsOf %d is %v", name, id, kids)
		}
		under := impl.Under(k, id)
		if !slices.Equal(under, underIn(k, id)) {
			t.Fatalf("%s: Under %d is %v", name, id, under)
		}
		var pieces []int64
		if there {
			pieces = []int64{id}
		}
		for _, kid := range impl.KidsOf(k, id) {
			pieces = append(pieces, impl.Under(k, kid)...)
		}
		slices.Sort(pieces)
		if !slices.Equal(under, pieces) {
			t.Fatalf("%s: Under %d is %v, itself and all below its kids %v", name, id, under, pieces)
		}
	}
	for id := int64(-1); id <= impl.MaxThread+1; id++ {
		want, there := threadIn(k, id)
		if x, ok := impl.ThreadOf(k, id); ok != there || threadText(x) != threadText(want) {
			t.Fatalf("%s: ThreadOf %d is %v, %v", name, id, x, ok)
		}
	}
}

func TestBelowIsItselfAndAllBelowItsKids(t *testing.T) {
	for name, k := range rightKernels() {
		checkBelow(t, name, k)
	}
	r := rand.New(rand.NewSource(21))
	for range 100 {
		checkBelow(t, "some kernel", someKernel(r))
	}
}

func TestObjectsOfTheSmallKernel(t *testing.T) {
	k := smallKernel()
	if got := impl.Under(k, 5001); !slices.Equal(got, []int64{2002, 2003, 2004, 2005, 2010, 5001}) {
		t.Error(got)
	}
	if got := impl.Under(k, 2002); !slices.Equal(got, []int64{2002, 2003, 2004}) {
		t.Error(got)
	}
	if got := impl.Under(k, 2003); !slices.Equal(got, []int64{2003}) {
		t.Error(got)
	}
	if got := impl.KidsOf(k, 5001); !slices.Equal(got, []int64{2005, 2010}) {
		t.Error(got)
	}
	if got := impl.KidsOf(k, 2003); len(got) != 0 {
		t.Error(got)
	}
	if got := impl.KidsOf(k, 0); len(got) != 0 {
		t.Error("the root is a kid of nothing", got)
	}
	if o, ok := impl.ObjectOf(k, 2005); !ok || o.Kind != impl.ObGate || !slices.Equal(o.Owns, []int64{5, 2001}) || impl.LabelText(o.Clear) != "1,5:3" {
		t.Error(o)
	}
	if x, ok := impl.ThreadOf(k, 5); !ok || x.Made != 1 || impl.LabelText(x.Label) != "1,5:3" {
		t.Error(x)
	}
}

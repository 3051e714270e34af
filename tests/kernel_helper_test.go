package tests

import (
	"fmt"
	"math/rand"
	"reflect"
	"slices"
	"strings"

	"loop.example/g00272/impl"
)

func rootBox(l impl.Label) impl.Object {
	return impl.Object{Id: impl.RootId, Kind: impl.ObBox, Label: l}
}

func segmentIn(up int64, id int64, l impl.Label, data string) impl.Object {
	return impl.Object{Id: id, Kind: impl.ObSegment, Up: up, Label: l, Data: data}
}

func queueIn(up int64, id int64, l impl.Label, items ...string) impl.Object {
	return impl.Object{Id: id, Kind: impl.ObQueue, Up: up, Label: l, Items: items}
}

func boxIn(up int64, id int64, l impl.Label) impl.Object {
	return impl.Object{Id: id, Kind: impl.ObBox, Up: up, Label: l}
}

func gateIn(up int64, id int64, l impl.Label, clear impl.Label, owns ...int64) impl.Object {
	return impl.Object{Id: id, Kind: impl.ObGate, Up: up, Label: l, Clear: clear, Owns: owns}
}

// texts are so many items, of the same text.
func texts(many int, text string) []string { return slices.Repeat([]string{text}, many) }

func threadText(x impl.Thread) string {
	return fmt.Sprintf("thread %d %v %v %v %d\n", x.Id, x.Label, x.Clear, x.Owns, x.Made)
}

func objectText(o impl.Object) string {
	return fmt.Sprintf("object %d %d %d %v %q %q %v %v\n", o.Id, o.Kind, o.Up, o.Label, o.Data, o.Items, o.Owns, o.Clear)
}

// kernelText tells nil and an empty list alike, as the document does.
func kernelText(k impl.Kernel) string {
	var b strings.Builder
	for _, x := range k.Threads {
		b.WriteString(threadText(x))
	}
	for _, o := range k.Objects {
		b.WriteString(objectText(o))
	}
	return b.String()
}

func isNoKernel(k impl.Kernel) bool { return len(k.Threads) == 0 && len(k.Objects) == 0 }

// fullKernel has as many threads and objects as there can be: each thread's first object is a box in the root, with its others in it.
func fullKernel() impl.Kernel {
	k := impl.Kernel{Objects: []impl.Object{rootBox(label(1))}}
	for id := int64(1); id <= impl.MaxThread; id++ {
		k.Threads = append(k.Threads, impl.Thread{Id: id, Label: label(1), Clear: label(2), Made: impl.MaxMade})
		k.Objects = append(k.Objects, boxIn(impl.RootId, 1000*id+1, label(1)))
		for n := int64(2); n <= impl.MaxMade; n++ {
			k.Objects = append(k.Objects, segmentIn(1000*id+1, 1000*id+n, label(1), "x"))
		}
	}
	return k
}

// smallKernel has a thread 2 that made ten and a thread 5 that made one, and each kind of object.
func smallKernel() impl.Kernel {
	high := label(1, impl.Cat{Id: 5, Level: 3})
	return impl.Kernel{
		Threads: []impl.Thread{
			{Id: 2, Label: label(1), Clear: label(2), Owns: []int64{5, 2001}, Made: 10},
			{Id: 5, Label: high, Clear: label(3), Made: 1},
		},
		Objects: []impl.Object{
			rootBox(label(1)),
			boxIn(2010, 2002, high),
			segmentIn(2002, 2003, high, "data"),
			queueIn(2002, 2004, label(1), "a", "", "b"),
			gateIn(5001, 2005, label(1), high, 5, 2001),
			boxIn(5001, 2010, label(0)),
			boxIn(impl.RootId, 5001, label(1)),
		},
	}
}

func rightKernels() map[string]impl.Kernel {
	one, _ := impl.KernelNew(1)
	nine, _ := impl.KernelNew(impl.MaxThread)
	out := map[string]impl.Kernel{"one thread": one, "nine threads": nine, "271 objects": fullKernel(), "small": smallKernel()}
	for name, change := range rightChanges() {
		k := smallKernel()
		change(&k)
		out[name] = k
	}
	return out
}

// rightChanges lead from smallKernel to the edges of what is right.
func rightChanges() map[string]func(*impl.Kernel) {
	return map[string]func(*impl.Kernel){
		"id 1 past a thousand":  func(k *impl.Kernel) { k.Objects[1].Id, k.Objects[2].Up, k.Objects[3].Up = 2001, 2001, 2001 },
		"made 30":               func(k *impl.Kernel) { k.Threads[0].Made = impl.MaxMade },
		"empty lists":           func(k *impl.Kernel) { k.Objects[0].Items, k.Objects[0].Owns = []string{}, []int64{} },
		"empty list of a label": func(k *impl.Kernel) { k.Objects[2].Clear.Cats = []impl.Cat{} },
		"no data":               func(k *impl.Kernel) { k.Objects[2].Data = "" },
		"40 bytes":              func(k *impl.Kernel) { k.Objects[2].Data = longText("x", impl.MaxData) },
		"byte 32 and 126":       func(k *impl.Kernel) { k.Objects[2].Data = " ~" },
		"no items":              func(k *impl.Kernel) { k.Objects[3].Items = nil },
		"8 items of 40 bytes":   func(k *impl.Kernel) { k.Objects[3].Items = texts(impl.MaxItems, longText("~", impl.MaxData)) },
		"item of 32 and 126":    func(k *impl.Kernel) { k.Objects[3].Items[2] = "~ " },
		"gate of nothing":       func(k *impl.Kernel) { k.Objects[4].Owns, k.Objects[4].Clear = nil, impl.Label{} },
		"gate of ten":           func(k *impl.Kernel) { k.Objects[4].Owns = rising(1, impl.MaxOwns) },
		"gate of categories at the ends": func(k *impl.Kernel) {
			k.Objects[4].Owns = []int64{1, impl.MaxCat}
		},
		"root with a label": func(k *impl.Kernel) { k.Objects[0].Label = run(3, 1, impl.MaxCats, 0) },
		"all in the root": func(k *impl.Kernel) {
			for i := range k.Objects[1:] {
				k.Objects[1+i].Up = impl.RootId
			}
		},
		"the root alone": func(k *impl.Kernel) { k.Objects = k.Objects[:1] },
	}
}

// wrongChanges lead from smallKernel past one rule each.
func wrongChanges() map[string]func(*impl.Kernel) {
	out := map[string]func(*impl.Kernel){
		"no threads":                  func(k *impl.Kernel) { k.Threads = nil },
		"no threads, the root alone":  func(k *impl.Kernel) { k.Threads, k.Objects = nil, k.Objects[:1] },
		"threads fall":                func(k *impl.Kernel) { slices.Reverse(k.Threads) },
		"threads alike":               func(k *impl.Kernel) { k.Threads = append(k.Threads, k.Threads[1]) },
		"no objects":                  func(k *impl.Kernel) { k.Objects = nil },
		"objects fall":                func(k *impl.Kernel) { k.Objects[5], k.Objects[6] = k.Objects[6], k.Objects[5] },
		"objects alike":               func(k *impl.Kernel) { k.Objects = append(k.Objects, k.Objects[6]) },
		"segments alike":              func(k *impl.Kernel) { k.Objects = slices.Insert(k.Objects, 2, k.Objects[2]) },
		"no root":                     func(k *impl.Kernel) { k.Objects = k.Objects[1:] },
		"root is no box":              func(k *impl.Kernel) { k.Objects = []impl.Object{segmentIn(0, impl.RootId, label(1), "")} },
		"root is a gate":              func(k *impl.Kernel) { k.Objects = []impl.Object{gateIn(0, impl.RootId, label(1), label(1))} },
		"root lies in a box":          func(k *impl.Kernel) { k.Objects[0].Up = 5001 },
		"root lies in itself":         func(k *impl.Kernel) { k.Objects[0].Up = impl.RootId },
		"root lies below 0":           func(k *impl.Kernel) { k.Objects[0].Up = -1 },
		"root is 2":                   func(k *impl.Kernel) { k.Objects = []impl.Object{boxIn(0, 2, label(1))} },
		"root is 0":                   func(k *impl.Kernel) { k.Objects = []impl.Object{boxIn(0, 0, label(1))} },
		"one past made":               func(k *impl.Kernel) { k.Threads[0].Made = 9 },
		"one past made, last":         func(k *impl.Kernel) { k.Threads[1].Made = 0 },
		"id of no thread":             func(k *impl.Kernel) { k.Threads[1].Id = 6 },
		"id of a thread that is none": func(k *impl.Kernel) { k.Threads = k.Threads[:1] },
		"id 1000 times a thread":      func(k *impl.Kernel) { k.Objects[1].Id, k.Objects[2].Up, k.Objects[3].Up = 2000, 2000, 2000 },
		"id 2":                        func(k *impl.Kernel) { k.Objects[1].Id, k.Objects[2].Up, k.Objects[3].Up = 2, 2, 2 },
		"id highest":                  func(k *impl.Kernel) { k.Objects = append(k.Objects, boxIn(1, highest, label(1))) },
		"id past a thousand threads":  func(k *impl.Kernel) { k.Objects = append(k.Objects, boxIn(1, 1002001, label(1))) },
		"up 0":                        func(k *impl.Kernel) { k.Objects[6].Up = 0 },
		"up -1":                       func(k *impl.Kernel) { k.Objects[3].Up = -1 },
		"up is no object":             func(k *impl.Kernel) { k.Objects[3].Up = 2001 },
		"up is a segment":             func(k *impl.Kernel) { k.Objects[3].Up = 2003 },
		"up is a queue":               func(k *impl.Kernel) { k.Objects[2].Up = 2004 },
		"up is a gate":                func(k *impl.Kernel) { k.Objects[2].Up = 2005 },
		"up is itself":                func(k *impl.Kernel) { k.Objects[1].Up = 2002 },
		"round of two":                func(k *impl.Kernel) { k.Objects[5].Up = 2002 },
		"round of three":              func(k *impl.Kernel) { k.Objects[6].Up = 2002 },
		"queue lies in itself":        func(k *impl.Kernel) { k.Objects[3].Up = 2004 },
		"kind 0":                      func(k *impl.Kernel) { k.Objects[3].Kind, k.Objects[3].Items = 0, nil },
		"kind 5":                      func(k *impl.Kernel) { k.Objects[3].Kind, k.Objects[3].Items = 5, nil },
		"kind -1":                     func(k *impl.Kernel) { k.Objects[3].Kind, k.Objects[3].Items = -1, nil },
	}
	for name, change := range wrongFields() {
		out[name] = change
	}
	for name, l := range wrongLabels() {
		out["an object's label "+name] = func(k *impl.Kernel) { k.Objects[2].Label = l }
		out["a gate's clear "+name] = func(k *impl.Kernel) { k.Objects[4].Clear = l }
	}
	for name, owns := range wrongOwns() {
		out["a gate's owns "+name] = func(k *impl.Kernel) { k.Objects[4].Owns = owns }
	}
	for name, x := range wrongThreads() {
		out["thread "+name] = func(k *impl.Kernel) { *k = impl.Kernel{Threads: []impl.Thread{x}, Objects: k.Objects[:1]} }
	}
	return out
}

// wrongFields give an object what its kind does not name, or too much of what it does.
func wrongFields() map[string]func(*impl.Kernel) {
	out := map[string]func(*impl.Kernel){
		"41 bytes":             func(k *impl.Kernel) { k.Objects[2].Data = longText("x", impl.MaxData+1) },
		"byte 31":              func(k *impl.Kernel) { k.Objects[2].Data = "a\x1f" },
		"byte 127":             func(k *impl.Kernel) { k.Objects[2].Data = "\x7fa" },
		"byte 0":               func(k *impl.Kernel) { k.Objects[2].Data = "\x00" },
		"byte 255":             func(k *impl.Kernel) { k.Objects[2].Data = "a\xffb" },
		"9 items":              func(k *impl.Kernel) { k.Objects[3].Items = texts(impl.MaxItems+1, "") },
		"item of 41 bytes":     func(k *impl.Kernel) { k.Objects[3].Items[2] = longText("x", impl.MaxData+1) },
		"item with byte 31":    func(k *impl.Kernel) { k.Objects[3].Items[0] = "\x1f" },
		"item with byte 127":   func(k *impl.Kernel) { k.Objects[3].Items[2] = "\x7f" },
		"segment with an item": func(k *impl.Kernel) { k.Objects[2].Items = []string{""} },
		"queue with data":      func(k *impl.Kernel) { k.Objects[3].Data = "x" },
		"box with data":        func(k *impl.Kernel) { k.Objects[1].Data = "x" },
		"box with an item":     func(k *impl.Kernel) { k.Objects[1].Items = []string{""} },
		"root with data":       func(k *impl.Kernel) { k.Objects[0].Data = "x" },
		"gate with data":       func(k *impl.Kernel) { k.Objects[4].Data = "x" },
		"gate with an item":    func(k *impl.Kernel) { k.Objects[4].Items = []string{""} },
	}
	for i, kind := range []string{"root", "box", "segment", "queue"} {
		out[kind+" with owns"] = func(k *impl.Kernel) { k.Objects[i].Owns = []int64{5} }
		out[kind+" with a clear of base 1"] = func(k *impl.Kernel) { k.Objects[i].Clear = label(1) }
		out[kind+" with a clear of a category"] = func(k *impl.Kernel) { k.Objects[i].Clear = label(0, impl.Cat{Id: 5, Level: 1}) }
	}
	return out
}

func wrongKernels() map[string]impl.Kernel {
	out := map[string]impl.Kernel{"zero value": {}}
	for name, change := range wrongChanges() {
		k := smallKernel()
		change(&k)
		out[name] = k
	}
	ten := fullKernel()
	ten.Threads = append(ten.Threads, impl.Thread{Id: 10})
	out["ten threads"] = ten
	more := fullKernel()
	more.Objects = append(more.Objects, segmentIn(1, 9031, label(1), ""))
	out["272 objects"] = more
	return out
}

func objectIn(k impl.Kernel, id int64) (impl.Object, bool) {
	for _, o := range k.Objects {
		if o.Id == id {
			return o, true
		}
	}
	return impl.Object{}, false
}

func threadIn(k impl.Kernel, id int64) (impl.Thread, bool) {
	for _, x := range k.Threads {
		if x.Id == id {
			return x, true
		}
	}
	return impl.Thread{}, false
}

// kidsIn and underIn are the document's words, without the program.
func kidsIn(k impl.Kernel, id int64) []int64 {
	var out []int64
	for _, o := range k.Objects {
		if o.Up == id && id != 0 {
			out = append(out, o.Id)
		}
	}
	return out
}

func underIn(k impl.Kernel, id int64) []int64 {
	var out []int64
	for _, o := range k.Objects {
		for at := o; ; at, _ = objectIn(k, at.Up) {
			if at.Id == id {
				out = append(out, o.Id)
			}
			if at.Id == id || at.Up == 0 {
				break
			}
		}
	}
	return out
}

func pick[T any](r *rand.Rand, list []T) T { return list[r.Intn(len(list))] }

// someKernelLabels differ at few categories, so that threads see much and not all.
func someKernelLabels() []impl.Label {
	c := func(id int64, level int64) impl.Cat { return impl.Cat{Id: id, Level: level} }
	return []impl.Label{label(1), label(1), label(1), label(0), label(2), label(3), label(1, c(1001, 2)), label(1, c(1001, 3)), label(1, c(1001, 0)),
		label(1, c(2001, 2)), label(0, c(1001, 2)), label(1, c(1001, 2), c(2001, 3)), label(2, c(2001, 0)), label(1, c(5, 0), c(2001, 3))}
}

func someOwns(r *rand.Rand) []int64 {
	switch r.Intn(6) {
	case 0, 1:
		return nil
	case 2:
		return []int64{1001, 2001}
	case 3:
		return append(someCats(r, 900, impl.MaxOwns-1), 1001)
	case 4:
		return append(someCats(r, 900, impl.MaxOwns-3), 1002, 2001)
	}
	return []int64{pick(r, []int64{5, 1001, 1002, 2001, 2002})}
}

// someKernel is right: objects lie in boxes that were laid ahead of them, whatever their numbers.
func someKernel(r *rand.Rand) impl.Kernel {
	k := impl.Kernel{Objects: []impl.Object{rootBox(label(1))}}
	var ids []int64
	for id := int64(1); id <= 4; id++ {
		if id > 1 && r.Intn(4) == 0 {
			continue
		}
		x := impl.Thread{Id: id, Label: pick(r, someKernelLabels()), Clear: label(2), Owns: someOwns(r), Made: pick(r, []int64{0, 1, 4, 6, 29, 30})}
		if r.Intn(3) == 0 {
			x.Clear = pick(r, someKernelLabels())
		}
		k.Threads = append(k.Threads, x)
		for n := int64(1); n <= x.Made; n++ {
			if r.Int63n(x.Made) < 5 {
				ids = append(ids, 1000*id+n)
			}
		}
	}
	r.Shuffle(len(ids), func(i, j int) { ids[i], ids[j] = ids[j], ids[i] })
	boxes := []int64{impl.RootId}
	for _, id := range ids {
		o := someObject(r, pick(r, boxes), id)
		if o.Kind == impl.ObBox {
			boxes = append(boxes, id)
		}
		k.Objects = append(k.Objects, o)
	}
	slices.SortFunc(k.Objects, func(a, b impl.Object) int { return int(a.Id - b.Id) })
	return k
}

func someObject(r *rand.Rand, up int64, id int64) impl.Object {
	l := pick(r, someKernelLabels())
	switch r.Intn(4) {
	case 0:
		return segmentIn(up, id, l, pick(r, []string{"", "data", " ~", longText("x", impl.MaxData)}))
	case 1:
		items := []string{"first", "", "b c", "~", " ", "x", "y", "last"}
		return queueIn(up, id, l, items[:pick(r, []int{0, 1, 3, 7, impl.MaxItems})]...)
	case 2:
		return boxIn(up, id, l)
	}
	return gateIn(up, id, l, pick(r, someKernelLabels()), someOwns(r)...)
}

// spareAll lays every list in a value, however deep, at the front of a longer one.
func spareAll[T any](v T) T {
	out := reflect.New(reflect.TypeOf(v)).Elem()
	out.Set(reflect.ValueOf(v))
	spareInto(out)
	return out.Interface().(T)
}

func spareInto(v reflect.Value) {
	switch v.Kind() {
	case reflect.Struct:
		for i := range v.NumField() {
			spareInto(v.Field(i))
		}
	case reflect.Slice:
		room := reflect.MakeSlice(v.Type(), v.Len()+3, v.Len()+3)
		reflect.Copy(room, v)
		for i := range v.Len() {
			spareInto(room.Index(i))
		}
		for i := range 3 {
			mark(room.Index(v.Len() + i))
		}
		v.Set(room.Slice(0, v.Len()))
	}
}

// mark writes what no function answers, so that the spare room is told from what is written there.
func mark(v reflect.Value) {
	switch v.Kind() {
	case reflect.Struct:
		for i := range v.NumField() {
			mark(v.Field(i))
		}
	case reflect.Int64:
		v.SetInt(-77)
	case reflect.String:
		v.SetString("spare")
	}
}

// wholeText tells a value with the spare room behind each of its lists.
func wholeText(v any) string {
	var b strings.Builder
	wholeInto(&b, reflect.ValueOf(v))
	return b.String()
}

func wholeInto(b *strings.Builder, v reflect.Value) {
	switch v.Kind() {
	case reflect.Struct:
		for i := range v.NumField() {
			wholeInto(b, v.Field(i))
		}
	case reflect.Slice:
		fmt.Fprintf(b, "[%d of %d: ", v.Len(), v.Cap())
		for i := range v.Cap() {
			wholeInto(b, v.Slice(0, v.Cap()).Index(i))
		}
		b.WriteString("] ")
	default:
		fmt.Fprintf(b, "%#v ", v.Interface())
	}
}

// A room is where a list lies, the spare room with it.
type room struct{ from, to uintptr }

func rooms(v any) []room {
	var out []room
	roomsInto(&out, reflect.ValueOf(v))
	return out
}

func roomsInto(out *[]room, v reflect.Value) {
	switch v.Kind() {
	case reflect.Struct:
		for i := range v.NumField() {
			roomsInto(out, v.Field(i))
		}
	case reflect.Slice:
		if v.Cap() > 0 {
			from := v.Pointer()
			*out = append(*out, room{from, from + uintptr(v.Cap())*v.Type().Elem().Size()})
		}
		for i := range v.Len() {
			roomsInto(out, v.Index(i))
		}
	}
}

func meet(a room, b room) bool { return a.from < b.to && b.from < a.to }

func anyMeet(some []room, others []room) bool {
	return slices.ContainsFunc(some, func(a room) bool {
		return slices.ContainsFunc(others, func(b room) bool { return meet(a, b) })
	})
}

func twoMeet(all []room) bool {
	for i, a := range all {
		if anyMeet([]room{a}, all[i+1:]) {
			return true
		}
	}
	return false
}

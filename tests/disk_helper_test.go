package tests

import (
	"fmt"
	"maps"
	"math/rand"
	"slices"
	"strings"
	"testing"

	"loop.example/g00272/impl"
)

// A drawer has files by their names. With it chapter 11 is told by its words, without the program.
type drawer map[string]string

func drawerOf(files []impl.File) drawer {
	w := drawer{}
	for _, f := range files {
		w[f.Name] = f.Data
	}
	return w
}

func (w drawer) files() []impl.File {
	var out []impl.File
	for _, name := range slices.Sorted(maps.Keys(w)) {
		out = append(out, file(name, w[name]))
	}
	return out
}

func (w drawer) fits() bool {
	size := 0
	for _, text := range w {
		size += len(text)
	}
	return len(w) <= 60 && size <= 200000
}

func (w drawer) has(name string) bool {
	_, ok := w[name]
	return ok
}

func (w drawer) finds(op impl.DOp) bool { return op.Kind == impl.DkAppend || w.has(op.Name) }

func (w drawer) do(op impl.DOp) {
	switch op.Kind {
	case impl.DkAppend:
		w[op.Name] += op.Data
	case impl.DkRename:
		text := w[op.Name]
		delete(w, op.Name)
		w[op.To] = text
	case impl.DkRemove:
		delete(w, op.Name)
	}
}

func formIn(op impl.DOp) bool {
	named := func(name string) bool { return len(name) > 0 && len(name) < 101 }
	switch op.Kind {
	case 1:
		return named(op.Name) && op.To == ""
	case 2:
		return named(op.Name) && named(op.To) && op.Data == ""
	case 3:
		return named(op.Name) && op.To == "" && op.Data == ""
	}
	return false
}

// codeOnDisk is what Do tells of a right disk.
func codeOnDisk(d impl.Disk, op impl.DOp) int64 {
	w := drawerOf(d.Live)
	switch {
	case !formIn(op):
		return impl.DkForm
	case !w.finds(op):
		return impl.DkNone
	case len(d.Ops) >= 200:
		return impl.DkFull
	}
	w.do(op)
	if !w.fits() {
		return impl.DkFull
	}
	return impl.DkOk
}

func doneOnDisk(d impl.Disk, op impl.DOp) impl.Disk {
	w := drawerOf(d.Live)
	w.do(op)
	return impl.Disk{Live: w.files(), Safe: d.Safe, Ops: append(slices.Clone(d.Ops), op)}
}

func crashOnDisk(d impl.Disk, keep []int64, torn int64) (impl.Disk, bool) {
	w := drawerOf(d.Safe)
	last := int64(-1)
	for _, place := range keep {
		if place <= last || place >= int64(len(d.Ops)) {
			return impl.Disk{}, false
		}
		last = place
	}
	for i, place := range keep {
		op := d.Ops[place]
		if i+1 == len(keep) && op.Kind == impl.DkAppend && torn >= 0 && torn < int64(len(op.Data)) {
			op.Data = op.Data[:torn]
		}
		if w.finds(op) {
			w.do(op)
		}
	}
	if torn < 0 || !w.fits() {
		return impl.Disk{}, false
	}
	return synced(w.files()...), true
}

func file(name string, text string) impl.File { return impl.File{Name: name, Data: text} }

func synced(files ...impl.File) impl.Disk {
	return impl.Disk{Live: slices.Clone(files), Safe: slices.Clone(files)}
}

// with has ops done behind what is there, whether they may be or not.
func with(d impl.Disk, ops ...impl.DOp) impl.Disk {
	for _, op := range ops {
		d = doneOnDisk(d, op)
	}
	return d
}

func put(name string, text string) impl.DOp {
	return impl.DOp{Kind: impl.DkAppend, Name: name, Data: text}
}

func move(name string, to string) impl.DOp {
	return impl.DOp{Kind: impl.DkRename, Name: name, To: to}
}

func remove(name string) impl.DOp { return impl.DOp{Kind: impl.DkRemove, Name: name} }

func sameDisk(a impl.Disk, b impl.Disk) bool {
	return slices.Equal(a.Live, b.Live) && slices.Equal(a.Safe, b.Safe) && slices.Equal(a.Ops, b.Ops)
}

func isNoDisk(d impl.Disk) bool { return len(d.Live) == 0 && len(d.Safe) == 0 && len(d.Ops) == 0 }

// diskText is for people: long Data are cut.
func diskText(d impl.Disk) string {
	var b strings.Builder
	files := func(word string, list []impl.File) {
		b.WriteString(word)
		for _, f := range list {
			fmt.Fprintf(&b, " %.30q=%.60q(%d)", f.Name, f.Data, len(f.Data))
		}
	}
	files("live", d.Live)
	files("; safe", d.Safe)
	fmt.Fprintf(&b, "; ops %d", len(d.Ops))
	for _, op := range d.Ops {
		fmt.Fprintf(&b, " %d:%.30q,%.30q,%.30q", op.Kind, op.Name, op.To, op.Data)
	}
	return b.String()
}

func manyFiles(many int, text string) []impl.File {
	var out []impl.File
	for i := range many {
		out = append(out, file(fmt.Sprintf("f%03d", i), text))
	}
	return out
}

// full has as many bytes as there may be, those that are given among them.
func full(files ...impl.File) []impl.File {
	size := impl.MaxBytes
	for _, f := range files {
		size -= len(f.Data)
	}
	return append([]impl.File{file("!", longText("z", size))}, files...)
}

// opsOn are so many ops that change little, behind those of d.
func opsOn(d impl.Disk, many int) impl.Disk {
	for len(d.Ops) < many {
		d = doneOnDisk(d, put("z", "-"))
	}
	return d
}

// allNames are names at the edges, rising, with bytes that are none of a word.
func allNames() []string {
	return []string{"\x00", "\x00\x00", "\n", " ", "  ", ".", ".new", "/", "A", "a", "a b", "aa", "b", longText("n", 99), longText("n", 100), "\u00e4", "\xff", longText("\xff", 100)}
}

func someNames() []string { return []string{"a", "a.new", "b", "b.new", "c"} }

func someOp(r *rand.Rand) impl.DOp {
	name := pick(r, someNames())
	switch r.Intn(6) {
	case 0, 1:
		return move(name, pick(r, someNames()))
	case 2:
		return remove(name)
	}
	return put(name, pick(r, []string{"", "x", "yz", "long data"}))
}

// someDisk is right, with so many ops at most; some are only asked for where no file is found.
func someDisk(r *rand.Rand, ops int) impl.Disk {
	var d impl.Disk
	for _, name := range someNames() {
		if r.Intn(2) == 0 {
			d.Safe = append(d.Safe, file(name, pick(r, []string{"", "s", "safe " + name})))
		}
	}
	d.Live = slices.Clone(d.Safe)
	for range r.Intn(ops + 1) {
		if op := someOp(r); codeOnDisk(d, op) == impl.DkOk {
			d = doneOnDisk(d, op)
		}
	}
	return d
}

// eachKeep hands on each choice of so many places, rising.
func eachKeep(many int, hand func(keep []int64)) {
	for bits := range 1 << many {
		var keep []int64
		for i := range many {
			if bits>>i&1 == 1 {
				keep = append(keep, int64(i))
			}
		}
		hand(keep)
	}
}

func rightDisks() map[string]impl.Disk {
	out := map[string]impl.Disk{
		"none":                  {},
		"one":                   synced(file("a", "x")),
		"an empty file":         synced(file("a", "")),
		"files":                 synced(file("a", "1"), file("b", "2"), file("c", "")),
		"made":                  with(impl.Disk{}, put("a", "x")),
		"made empty":            with(impl.Disk{}, put("a", "")),
		"longer":                with(synced(file("a", "x")), put("a", "y"), put("a", ""), put("a", "z")),
		"onto none":             with(synced(file("a", "x")), move("a", "b")),
		"onto another":          with(synced(file("a", "x"), file("b", "y")), move("a", "b")),
		"onto itself":           with(synced(file("a", "x"), file("b", "y")), move("a", "a")),
		"gone":                  with(synced(file("a", "x"), file("b", "y")), remove("a")),
		"all gone":              with(synced(file("a", "x")), remove("a")),
		"and again":             with(synced(file("a", "x")), remove("a"), put("a", "x")),
		"what is as it was":     with(synced(file("a", "x")), move("a", "b"), move("b", "a"), put("a", "")),
		"MaxFiles":              synced(manyFiles(impl.MaxFiles, "x")...),
		"MaxFiles in the end":   with(synced(manyFiles(impl.MaxFiles-1, "")...), put("z", "")),
		"MaxFiles at the start": with(synced(manyFiles(impl.MaxFiles, "")...), remove("f001")),
		"MaxBytes":              synced(full()...),
		"MaxBytes of two":       synced(full(file("a", "xy"), file("b", ""))...),
		"MaxBytes in the end":   with(synced(file("a", longText("x", impl.MaxBytes-1))), put("b", "y")),
		"MaxBytes on the way":   with(impl.Disk{}, put("a", longText("x", impl.MaxBytes)), remove("a"), put("b", longText("y", impl.MaxBytes)), put("a", ""), move("a", "b")),
		"MaxOps":                opsOn(impl.Disk{}, impl.MaxOps),
		"MaxOps of all kinds":   opsOn(with(synced(file("a", "x")), move("a", "b"), remove("b")), impl.MaxOps),
	}
	var names []impl.File
	var ops []impl.DOp
	for _, name := range allNames() {
		names, ops = append(names, file(name, "x")), append(ops, put(name, "x"), move(name, name))
	}
	out["names"], out["names of ops"] = synced(names...), with(impl.Disk{}, ops...)
	return out
}

// wrongOps are of no form; name says why.
func wrongOps() map[string]impl.DOp {
	long := longText("n", 101)
	return map[string]impl.DOp{
		"zero":               {},
		"kind 0":             {Kind: 0, Name: "a"},
		"kind 4":             {Kind: 4, Name: "a"},
		"kind -1":            {Kind: -1, Name: "a"},
		"kind lowest":        {Kind: lowest, Name: "a"},
		"kind highest":       {Kind: highest, Name: "a"},
		"kind 1 wrapped":     {Kind: 1 << 32, Name: "a"},
		"append: no name":    put("", "x"),
		"append: long name":  put(long, "x"),
		"append: To":         {Kind: impl.DkAppend, Name: "a", To: "b", Data: "x"},
		"append: To, Name":   {Kind: impl.DkAppend, Name: "a", To: "a"},
		"rename: no name":    move("", "a"),
		"rename: long name":  move(long, "a"),
		"rename: no To":      move("a", ""),
		"rename: long To":    move("a", long),
		"rename: neither":    move("", ""),
		"rename: Data":       {Kind: impl.DkRename, Name: "a", To: "b", Data: "x"},
		"remove: no name":    remove(""),
		"remove: long name":  remove(long),
		"remove: To":         {Kind: impl.DkRemove, Name: "a", To: "b"},
		"remove: To, Name":   {Kind: impl.DkRemove, Name: "a", To: "a"},
		"remove: Data":       {Kind: impl.DkRemove, Name: "a", Data: "x"},
		"remove: longest To": {Kind: impl.DkRemove, Name: "a", To: longText("n", 100)},
	}
}

// wrongFiles break one rule of files each.
func wrongFiles() map[string][]impl.File {
	return map[string][]impl.File{
		"no name":        {file("", "x")},
		"no name first":  {file("", "x"), file("a", "x")},
		"long name":      {file(longText("n", 101), "")},
		"long name last": {file("a", ""), file(longText("n", 101), "")},
		"names alike":    {file("a", "x"), file("a", "x")},
		"names fall":     {file("b", ""), file("a", "")},
		"fall last":      {file("a", ""), file("c", ""), file("b", "")},
		"fall by length": {file("aa", ""), file("a", "")},
		"case":           {file("a", ""), file("B", "")},
		"high bytes":     {file("\xff", ""), file("a", "")},
		"too many":       manyFiles(impl.MaxFiles+1, ""),
		"a byte more":    append(full(), file("a", "x")),
		"bytes of one":   {file("a", longText("x", impl.MaxBytes+1))},
	}
}

func wrongDisks() map[string]impl.Disk {
	one := synced(file("a", "x"))
	out := map[string]impl.Disk{
		"live alone":         {Live: one.Live},
		"safe alone":         {Safe: one.Live},
		"other data":         {Live: one.Live, Safe: []impl.File{file("a", "y")}},
		"shorter data":       {Live: one.Live, Safe: []impl.File{file("a", "")}},
		"other name":         {Live: one.Live, Safe: []impl.File{file("b", "x")}},
		"a file more":        {Live: []impl.File{file("a", "x"), file("b", "")}, Safe: one.Safe},
		"a file less":        {Live: one.Live, Safe: []impl.File{file("a", "x"), file("b", "")}},
		"an op more":         {Live: one.Live, Safe: one.Safe, Ops: []impl.DOp{put("a", "y")}},
		"an empty one more":  {Live: one.Live, Safe: one.Safe, Ops: []impl.DOp{put("b", "")}},
		"ops the other way":  {Live: []impl.File{file("a", "xyz")}, Safe: one.Safe, Ops: []impl.DOp{put("a", "z"), put("a", "y")}},
		"done twice":         {Live: []impl.File{file("a", "xyy")}, Safe: one.Safe, Ops: []impl.DOp{put("a", "y")}},
		"done on live":       {Live: []impl.File{file("a", "xy")}, Safe: []impl.File{file("a", "xy")}, Ops: []impl.DOp{put("a", "y")}},
		"rename of none":     {Live: one.Live, Safe: one.Safe, Ops: []impl.DOp{move("b", "c")}},
		"none onto itself":   {Live: one.Live, Safe: one.Safe, Ops: []impl.DOp{move("b", "b")}},
		"remove of none":     {Live: one.Live, Safe: one.Safe, Ops: []impl.DOp{remove("b")}},
		"removed twice":      {Safe: one.Safe, Ops: []impl.DOp{remove("a"), remove("a")}},
		"renamed twice":      {Live: []impl.File{file("b", "x")}, Safe: one.Safe, Ops: []impl.DOp{move("a", "b"), move("a", "b")}},
		"lost by itself":     {Safe: one.Safe, Ops: []impl.DOp{move("a", "a")}},
		"found too late":     {Live: []impl.File{file("a", "x"), file("c", "")}, Safe: one.Safe, Ops: []impl.DOp{move("b", "c"), put("b", "")}},
		"no op":              {Live: one.Live, Safe: one.Safe, Ops: []impl.DOp{{}}},
		"too many ops":       opsOn(impl.Disk{}, impl.MaxOps+1),
		"too many, the same": {Live: one.Live, Safe: one.Safe, Ops: slices.Repeat([]impl.DOp{put("a", "")}, impl.MaxOps+1)},
		"files on the way":   with(synced(manyFiles(impl.MaxFiles, "")...), put("z", ""), remove("z")),
		"bytes on the way":   with(synced(full()...), put("a", "x"), remove("a")),
		"bytes, then onto":   with(synced(full()...), put("a", "x"), move("a", "!")),
	}
	for name, files := range wrongFiles() {
		out["both: "+name] = synced(files...)
		out["live: "+name] = impl.Disk{Live: files}
		out["safe: "+name] = impl.Disk{Safe: files}
		out["gone: "+name] = with(impl.Disk{Safe: files, Live: files}, remove(files[0].Name))
	}
	for name, op := range wrongOps() {
		out["op: "+name] = with(one, op)
		out["op on nothing: "+name] = impl.Disk{Live: one.Live, Safe: one.Safe, Ops: []impl.DOp{op}}
	}
	return out
}

func checkDisk(t *testing.T, what string, got impl.Disk, want impl.Disk) {
	t.Helper()
	if !sameDisk(got, want) {
		t.Errorf("%s: %s\nnot %s", what, diskText(got), diskText(want))
	}
}

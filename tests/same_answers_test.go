package tests

import (
	"fmt"
	"go/ast"
	"go/parser"
	"go/token"
	"maps"
	"math/rand"
	"path/filepath"
	"reflect"
	"slices"
	"strings"
	"sync"
	"testing"

	"loop.example/g00272/impl"
)

// allFunctions are the functions of all chapters.
func allFunctions() map[string]any {
	return map[string]any{
		"LabelOk": impl.LabelOk, "LevelOf": impl.LevelOf, "With": impl.With, "Leq": impl.Leq, "Join": impl.Join, "Meet": impl.Meet, "LabelText": impl.LabelText, "ReadLabel": impl.ReadLabel,
		"Flows": impl.Flows, "ThreadOk": impl.ThreadOk, "Sees": impl.Sees, "Changes": impl.Changes, "Reaches": impl.Reaches,
		"KernelOk": impl.KernelOk, "KernelNew": impl.KernelNew, "ObjectOf": impl.ObjectOf, "ThreadOf": impl.ThreadOf, "KidsOf": impl.KidsOf, "Under": impl.Under,
		"StepOk": impl.StepOk, "Named": impl.Named, "Done": impl.Done,
		"Seen": impl.Seen, "Tidy": impl.Tidy, "ViewOf": impl.ViewOf,
		"Ran": impl.Ran, "Handed": impl.Handed, "Purged": impl.Purged,
		"Checksum": impl.Checksum, "PacketText": impl.PacketText, "ReadPacket": impl.ReadPacket,
		"RoutesOk": impl.RoutesOk, "PortFor": impl.PortFor, "Routed": impl.Routed,
		"BlockOf": impl.BlockOf, "Stream": impl.Stream, "Sealed": impl.Sealed, "Opened": impl.Opened, "WindowOk": impl.WindowOk, "Taken": impl.Taken,
		"StepText": impl.StepText, "ReadStep": impl.ReadStep, "KernelText": impl.KernelText, "ReadKernel": impl.ReadKernel,
		"DiskOk": impl.DiskOk, "Do": impl.Do, "Sync": impl.Sync, "Crash": impl.Crash, "ReadFile": impl.ReadFile, "Replace": impl.Replace,
		"FrameOf": impl.FrameOf, "TakeFrames": impl.TakeFrames, "JournalView": impl.JournalView, "JournalDo": impl.JournalDo, "JournalPlay": impl.JournalPlay,
		"RunScript": impl.RunScript,
	}
}

func TestNoFunctionIsLeftOut(t *testing.T) {
	files, err := filepath.Glob("../impl/*.go")
	if err != nil {
		t.Fatal(err)
	}
	listed := allFunctions()
	found := 0
	for _, name := range files {
		file, err := parser.ParseFile(token.NewFileSet(), name, nil, 0)
		if err != nil {
			t.Fatal(err)
		}
		for _, d := range file.Decls {
			if f, ok := d.(*ast.FuncDecl); ok && f.Recv == nil && f.Name.IsExported() {
				found++
				if listed[f.Name.Name] == nil {
					t.Errorf("%s is not asked for the same answers", f.Name.Name)
				}
			}
		}
	}
	if found != len(listed) {
		t.Errorf("%d functions are found, %d listed", found, len(listed))
	}
}

func packetOf(r *rand.Rand) string {
	p := pick(r, somePackets(r.Int63()))
	return packetIn(69, p, len(p.Body))
}

// drawnTexts are texts of each kind that a function reads, keys and names, so that each function is answered with some of them.
func drawnTexts(r *rand.Rand) []string {
	k := anyKernel(r)
	base := baseIn(3, k)
	return []string{"", "a", "base", "log", paperKey, someKey(r), "short", labelIn(anyLabel(r)), "1,5:1", stepTextIn(anyStep(r)), kernelTextIn(k), packetOf(r), pick(r, someRecords(r)), base, base + frameIn("x"), base[:len(base)-1],
		scriptOf(someScript(r, 12)...), "files", someBytes(r, r.Intn(300))}
}

// fittingTexts are those of which a function answers more than a refusal.
func fittingTexts(r *rand.Rand, name string) []string {
	switch name {
	case "ReadLabel":
		return []string{labelIn(anyLabel(r))}
	case "ReadStep":
		return []string{stepTextIn(anyStep(r))}
	case "ReadKernel":
		return []string{kernelTextIn(anyKernel(r))}
	case "ReadPacket":
		return []string{packetOf(r)}
	case "BlockOf", "Stream", "Sealed":
		return []string{paperKey, someKey(r)}
	case "Opened":
		return []string{paperKey, pick(r, someRecords(r))}
	case "TakeFrames":
		return []string{frameIn("x") + frameIn("y")}
	case "RunScript":
		return []string{scriptOf(someScript(r, 12)...), scriptOf(richScript()...)}
	}
	return []string{"a", "base"}
}

func drawnNumber(r *rand.Rand) int64 {
	return pick(r, []int64{-1, 0, 1, 1, 1, 2, 3, 5, 9, 10, 100, 1001, 1002, 2001, tenNet, topNonce, highest, lowest, r.Int63()})
}

func drawnDisk(r *rand.Rand) impl.Disk {
	if r.Intn(4) == 0 {
		wrong := wrongDisks()
		return wrong[pick(r, []string{"live alone", "found too late", "an op more", "both: names fall"})]
	}
	return pick(r, []impl.Disk{someDisk(r, 6), someDiskFor(r), someDiskFor(r)})
}

func drawnAct(r *rand.Rand) impl.Act {
	return pick(r, []impl.Act{someAct(r, impl.Disk{}), starting(2), logging(anyStep(r)), syncing(journalStep(r.Intn(12))), saving(), opening(), crashing(5), crashing(5, 0), powered(saving(), r.Int63n(8))})
}

func drawnKernel(r *rand.Rand) impl.Kernel {
	if r.Intn(4) == 0 {
		wrong := wrongKernels()
		return wrong[pick(r, []string{"zero value", "up is itself", "threads fall", "objects alike"})]
	}
	return pick(r, []impl.Kernel{someKernel(r), anyKernel(r), gallery(), newKernel(2)})
}

func drawnList[T any](r *rand.Rand, draw func(*rand.Rand) T) []T {
	var out []T
	for range r.Intn(7) {
		out = append(out, draw(r))
	}
	return out
}

func drawnThread(r *rand.Rand) impl.Thread {
	return pick(r, []impl.Thread{pick(r, houseThreads()), {Id: r.Int63n(11), Label: anyLabel(r), Clear: anyLabel(r), Owns: someOwns(r)}, {Id: 1, Label: label(1), Owns: []int64{7, 5}}})
}

func drawnLabel(r *rand.Rand) impl.Label {
	return pick(r, []impl.Label{pick(r, memoryLabels()), anyLabel(r), pick(r, someKernelLabels()), label(1)})
}

func drawnStep(r *rand.Rand) impl.Step {
	return pick(r, []impl.Step{anyStep(r), anyStep(r), pick(r, memorySteps()), journalStep(r.Intn(12)), {}, raising(1, run(1, 1, impl.MaxCats+1, 2))})
}

func drawnRoutes(r *rand.Rand) []impl.Route {
	return pick(r, [][]impl.Route{nil, streets(), manyRoutes(impl.MaxRoutes), manyRoutes(impl.MaxRoutes + 1), {{}}})
}

// drawn is a value for an argument of the function with that name.
func drawn(r *rand.Rand, name string, kind reflect.Type) any {
	switch reflect.Zero(kind).Interface().(type) {
	case string:
		if r.Intn(3) == 0 {
			return pick(r, drawnTexts(r))
		}
		return pick(r, fittingTexts(r, name))
	case int64:
		return drawnNumber(r)
	case []int64:
		return pick(r, [][]int64{nil, {}, {0}, {0, 1}, {1, 0}, someOwns(r), rising(1, impl.MaxOwns+1)})
	case impl.Label:
		return drawnLabel(r)
	case impl.Thread:
		return drawnThread(r)
	case impl.Kernel:
		return drawnKernel(r)
	case impl.Step:
		return drawnStep(r)
	case []impl.Step:
		return drawnList(r, drawnStep)
	case impl.Packet:
		return pick(r, somePackets(r.Int63()))
	case impl.Route:
		return someRoute(r)
	case []impl.Route:
		return drawnRoutes(r)
	case impl.Window:
		return pick(r, append(rightWindows(), wrongWindows()...))
	case impl.Disk:
		return drawnDisk(r)
	case impl.DOp:
		return pick(r, append(memoryOps(), someOp(r)))
	case impl.Act:
		return drawnAct(r)
	case []impl.Act:
		return drawnList(r, drawnAct)
	}
	panic("no values of " + kind.String())
}

// A request is a call of one of the functions, with arguments that have spare room.
type request struct {
	name string
	call reflect.Value
	args []reflect.Value
}

func drawnRequest(r *rand.Rand, name string) request {
	q := request{name: name, call: reflect.ValueOf(allFunctions()[name])}
	for i := range q.call.Type().NumIn() {
		arg := reflect.New(q.call.Type().In(i)).Elem()
		arg.Set(reflect.ValueOf(drawn(r, name, q.call.Type().In(i))))
		spareInto(arg)
		q.args = append(q.args, arg)
	}
	return q
}

// given tells the spare room, too.
func (q request) given() string {
	out := q.name
	for _, arg := range q.args {
		out += " " + wholeText(arg.Interface())
	}
	return out
}

// valueText tells of lists nothing but what is in them, so that nil and an empty list are alike.
func valueText(v reflect.Value) string {
	switch v.Kind() {
	case reflect.Struct:
		out := "{"
		for i := range v.NumField() {
			out += valueText(v.Field(i)) + " "
		}
		return out + "}"
	case reflect.Slice:
		out := fmt.Sprint(v.Len(), "[")
		for i := range v.Len() {
			out += valueText(v.Index(i)) + " "
		}
		return out + "]"
	}
	return fmt.Sprintf("%#v", v.Interface())
}

func answersOf(out []reflect.Value) string {
	text := ""
	for _, v := range out {
		text += valueText(v) + " "
	}
	return text
}

func roomsOf(list []reflect.Value) []room {
	var out []room
	for _, v := range list {
		out = append(out, rooms(v.Interface())...)
	}
	return out
}

func eachRequest(seed int64, many int, hand func(request)) {
	r := rand.New(rand.NewSource(seed))
	names := slices.Sorted(maps.Keys(allFunctions()))
	for range many {
		for _, name := range names {
			hand(drawnRequest(r, name))
		}
	}
}

// The same arguments give the same answers; nothing is written into an argument; no memory is shared.
func TestTheSameArgumentsGiveTheSameAnswers(t *testing.T) {
	t.Parallel()
	answers := map[string][]string{}
	eachRequest(630, 60, func(q request) {
		ahead := q.given()
		first, second := q.call.Call(q.args), q.call.Call(q.args)
		text := answersOf(first)
		if text != answersOf(second) {
			t.Errorf("%s answers %s, then %s", ahead, text, answersOf(second))
		}
		if q.given() != ahead {
			t.Errorf("%s was written into: %s", ahead, q.given())
		}
		if anyMeet(roomsOf(q.args), roomsOf(first)) || anyMeet(roomsOf(first), roomsOf(second)) || twoMeet(roomsOf(first)) {
			t.Errorf("%s: an answer shares memory", ahead)
		}
		answers[q.name] = append(answers[q.name], text)
	})
	for name, list := range answers {
		if len(slices.Compact(slices.Sorted(slices.Values(list)))) < 2 {
			t.Errorf("%s answers the same, whatever it is asked: the test says too little", name)
		}
	}
}

// Calls of all functions beside each other, on arguments that they share, answer as each does alone.
func TestAllFunctionsBesideEachOther(t *testing.T) {
	var asked []request
	var wants []string
	eachRequest(631, 6, func(q request) {
		asked, wants = append(asked, q), append(wants, answersOf(q.call.Call(q.args)))
	})
	var all sync.WaitGroup
	for side := range 8 {
		all.Go(func() {
			for i := range asked {
				at := (i + 41*side) % len(asked)
				if got := answersOf(asked[at].call.Call(asked[at].args)); got != wants[at] {
					t.Errorf("%s beside others: %s, alone %s", asked[at].name, strings.TrimSpace(got), wants[at])
				}
			}
		})
	}
	all.Wait()
}

package tests

import (
	"fmt"
	"math/rand"
	"slices"
	"strings"

	"loop.example/g00272/impl"
)

// These are the words of chapter 5 for right kernels and labels, without the program.
func seenIn(k impl.Kernel, o impl.Label) []int64 {
	var out []int64
	for _, x := range k.Objects {
		if isBelow(x.Label, o, nil) {
			out = append(out, x.Id)
		}
	}
	return out
}

func feltIn(k impl.Kernel, id int64, o impl.Label) bool {
	x, ok := threadIn(k, id)
	return ok && isBelow(x.Label, o, x.Owns)
}

func tidyIn(k impl.Kernel, o impl.Label) bool {
	seen := seenIn(k, o)
	for _, id := range seen {
		if x, _ := objectIn(k, id); id != impl.RootId && !slices.Contains(seen, x.Up) {
			return false
		}
	}
	return true
}

func labelIn(l impl.Label) string {
	out := fmt.Sprint(l.Base)
	for _, c := range l.Cats {
		out += fmt.Sprintf(",%d:%d", c.Id, c.Level)
	}
	return out
}

// behindBlanks has a blank ahead of each number, so that no number leaves no blank.
func behindBlanks(list []int64) string {
	out := ""
	for _, n := range list {
		out += fmt.Sprintf(" %d", n)
	}
	return out
}

func viewIn(k impl.Kernel, o impl.Label) string {
	var b strings.Builder
	fmt.Fprintf(&b, "view %s\n", labelIn(o))
	for _, x := range k.Threads {
		if feltIn(k, x.Id, o) {
			fmt.Fprintf(&b, "thread %d %s %s %d%s\n", x.Id, labelIn(x.Label), labelIn(x.Clear), x.Made, behindBlanks(x.Owns))
		}
	}
	for _, id := range seenIn(k, o) {
		x, _ := objectIn(k, id)
		fmt.Fprintf(&b, "object %d %d %d %s %s%s%s\n", id, x.Kind, x.Up, labelIn(x.Label), labelIn(x.Clear), behindBlanks(x.Owns), behindBlanks(kidsIn(k, id)))
		if x.Data != "" {
			fmt.Fprintf(&b, "data %s\n", x.Data)
		}
		for _, item := range x.Items {
			fmt.Fprintf(&b, "item %s\n", item)
		}
	}
	return b.String()
}

// observers are labels that see nothing, much or all of the kernels that the tests make.
func observers() []impl.Label {
	out := append(someKernelLabels()[2:], label(3, impl.Cat{Id: 1001, Level: 0}), label(3, impl.Cat{Id: 1001, Level: 2}), label(2, impl.Cat{Id: 2001, Level: 3}))
	return append(out, label(1, impl.Cat{Id: 5, Level: 3}), run(1, 995, impl.MaxCats, 3), run(2, 1001, impl.MaxCats, 0))
}

// tidied lays what is seen in boxes that are seen: what lies in another one is as little seen as that.
func tidied(k impl.Kernel, o impl.Label) impl.Kernel {
	out := impl.Kernel{Threads: k.Threads, Objects: slices.Clone(k.Objects)}
	for !tidyIn(out, o) {
		seen := seenIn(out, o)
		for i, x := range out.Objects[1:] {
			if !slices.Contains(seen, x.Up) {
				up, _ := objectIn(out, x.Up)
				out.Objects[1+i].Label = up.Label
			}
		}
	}
	return out
}

func someTidyKernel(r *rand.Rand, o impl.Label) impl.Kernel { return tidied(someKernel(r), o) }

// other is the kernel with other data, and other rights of gates, in all that the observer does not see.
func other(k impl.Kernel, o impl.Label) impl.Kernel {
	out := impl.Kernel{Threads: k.Threads, Objects: slices.Clone(k.Objects)}
	seen := seenIn(k, o)
	for i, x := range out.Objects {
		if slices.Contains(seen, x.Id) {
			continue
		}
		switch x.Kind {
		case impl.ObSegment:
			out.Objects[i].Data = x.Data[:len(x.Data)/2] + "!"
		case impl.ObQueue:
			out.Objects[i].Items = texts(impl.MaxItems-len(x.Items), "?")
		case impl.ObGate:
			out.Objects[i].Owns, out.Objects[i].Clear = rising(7001, 3), label(3)
		}
	}
	return out
}

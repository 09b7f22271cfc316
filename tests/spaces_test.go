package tests

import (
	"slices"
	"strconv"

	"loop.example/kilntrace/impl"
)

func source(name, text string) impl.Source { return impl.Source{Name: name, Text: text} }

func target(name string, code ...impl.Ins) impl.Target {
	return impl.Target{Name: name, Action: program(code...)}
}

// copying gives the code that asks for one name and ends with what lies there.
func copying(name string) []impl.Ins {
	return []impl.Ins{lit(name), op(impl.OpAsk), op(impl.OpEnd)}
}

// joining gives the code that asks for names in turn and ends with what lies
// under them, one behind the other.
func joining(names ...string) []impl.Ins {
	code := []impl.Ins{lit("")}
	for _, name := range names {
		code = append(code, lit(name), op(impl.OpAsk), op(impl.OpCat))
	}
	return append(code, op(impl.OpEnd))
}

// spaceOf gives the space of things that are sources and targets, in any order.
func spaceOf(things ...any) impl.Space {
	var sp impl.Space
	for _, thing := range things {
		switch x := thing.(type) {
		case impl.Source:
			sp.Sources = append(sp.Sources, x)
		case impl.Target:
			sp.Targets = append(sp.Targets, x)
		}
	}
	sortSpace(sp)
	return sp
}

func sortSpace(sp impl.Space) {
	slices.SortFunc(sp.Sources, func(a, b impl.Source) int { return order(a.Name, b.Name) })
	slices.SortFunc(sp.Targets, func(a, b impl.Target) int { return order(a.Name, b.Name) })
}

func order(a, b string) int {
	switch {
	case a < b:
		return -1
	case a > b:
		return 1
	}
	return 0
}

func copySpace(sp impl.Space) impl.Space {
	out := impl.Space{Sources: append([]impl.Source(nil), sp.Sources...)}
	for _, target := range sp.Targets {
		out.Targets = append(out.Targets, impl.Target{Name: target.Name, Action: copyOf(target.Action)})
	}
	return out
}

func sameSpaces(a, b impl.Space) bool {
	return slices.Equal(a.Sources, b.Sources) && slices.EqualFunc(a.Targets, b.Targets, func(x, y impl.Target) bool {
		return x.Name == y.Name && samePrograms(x.Action, y.Action)
	})
}

// spoilSpace writes over everything that can be written to in a space.
func spoilSpace(sp impl.Space) {
	for i := range sp.Sources {
		sp.Sources[i] = source("!spoilt", "!")
	}
	for i := range sp.Targets {
		for j := range sp.Targets[i].Action.Code {
			sp.Targets[i].Action.Code[j] = lit("!spoilt")
		}
		sp.Targets[i].Name = "!spoilt"
	}
}

func rung(i int) string { return "t" + strconv.Itoa(1000 + i)[1:] }

// ladder gives a space of n targets, each of which copies the next one; the
// last has the code that is given.
func ladder(n int, last ...impl.Ins) impl.Space {
	sp := impl.Space{Sources: []impl.Source{source("s", "given")}}
	for i := range n - 1 {
		sp.Targets = append(sp.Targets, target(rung(i), copying(rung(i+1))...))
	}
	sp.Targets = append(sp.Targets, target(rung(n-1), last...))
	return sp
}

// anySpace gives a valid space of few names, so that much is looked at.
func anySpace(d *dice) impl.Space {
	var things []any
	for _, name := range []string{"a", "b", "c", "d", "e", "f", "g"} {
		switch d.below(8) {
		case 0:
		case 1, 2:
			things = append(things, source(name, d.pick("a", "b c", "0", "", "g f", "x", "d\ne")))
		default:
			things = append(things, impl.Target{Name: name, Action: builtProgram(d, name)})
		}
	}
	return spaceOf(things...)
}

// builtProgram gives an action that looks mostly at names behind its own, so
// that circles are met, but not always.
func builtProgram(d *dice, name string) impl.Program {
	if d.below(6) == 0 {
		return lookingProgram(d)
	}
	var code []impl.Ins
	code = append(code, lit(""))
	for range 1 + d.below(3) {
		asked := string(rune(int(name[0]) + 1 + d.below(3)))
		if d.below(12) == 0 {
			asked = d.pick("a", "b", "c", "d", "e", "f", "g", "h")
		}
		code = append(code, lit(asked))
		switch d.below(6) {
		case 0:
			code = append(code, op(impl.OpHas), op(impl.OpCat))
		case 1: // what is asked for next hangs on what was seen
			code = append(code, op(impl.OpAsk), opN(impl.OpWord, d.below(2)), op(impl.OpDup), op(impl.OpHas),
				opN(impl.OpUnless, len(code)+6), op(impl.OpAsk), op(impl.OpCat))
		case 2: // ask only for what is there
			code = append(code, op(impl.OpHas), opN(impl.OpUnless, len(code)+5), lit(asked), op(impl.OpAsk), op(impl.OpCat))
		default:
			code = append(code, op(impl.OpAsk), op(impl.OpCat))
		}
	}
	return program(append(code, op([]int{impl.OpEnd, impl.OpEnd, impl.OpEnd, impl.OpEnd, impl.OpEnd, impl.OpFail}[d.below(6)]))...)
}

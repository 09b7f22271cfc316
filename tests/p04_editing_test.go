package tests

import (
	"strconv"
	"testing"

	"loop.example/kilntrace/impl"
)

// faultySpace gives a space with those faults of CheckSpace whose bits are set,
// that of code 1 the lowest.
func faultySpace(faults int) impl.Space {
	has := func(code int) bool { return faults>>(code-1)&1 == 1 }
	sp := impl.Space{Sources: []impl.Source{source("b", "")}, Targets: []impl.Target{target("c", op(impl.OpEnd))}}
	if has(6) {
		sp.Sources[0].Text = long(impl.MaxText + 1)
	}
	if has(7) {
		sp.Targets[0].Action = program()
	}
	if has(5) {
		sp.Sources = append(sp.Sources, source("k", ""))
		sp.Targets = append(sp.Targets, target("k", op(impl.OpEnd)))
	}
	if has(1) {
		sp.Sources = append(sp.Sources, things(impl.MaxThings)...)
	}
	if has(3) {
		sp.Sources = append(sp.Sources, source("aa", ""))
	}
	if has(4) {
		sp.Targets = append(sp.Targets, target("ab", op(impl.OpEnd)))
	}
	if has(2) {
		sp.Targets = append([]impl.Target{target("", op(impl.OpEnd))}, sp.Targets...)
	}
	return sp
}

// things gives n sources, ascending.
func things(n int) []impl.Source {
	var out []impl.Source
	for i := range n {
		out = append(out, source("m"+strconv.Itoa(1000 + i)[1:], ""))
	}
	return out
}

func firstFault(faults int) int {
	for code := 1; code <= 7; code++ {
		if faults>>(code-1)&1 == 1 {
			return code
		}
	}
	return 0
}

// Each code alone, and which comes first where several apply.
func TestCheckSpaceCodes(t *testing.T) {
	for faults := range 1 << 7 {
		sp := faultySpace(faults)
		given := copySpace(sp)
		if code := impl.CheckSpace(sp); code != firstFault(faults) {
			t.Errorf("faults %07b: code %d", faults, code)
		}
		if !sameSpaces(sp, given) {
			t.Errorf("faults %07b: the space was changed", faults)
		}
	}
}

func mustCheck(t *testing.T, what string, sp impl.Space, want int) {
	t.Helper()
	if got := impl.CheckSpace(sp); got != want {
		t.Errorf("%s: code %d, not %d", what, got, want)
	}
}

func TestCheckSpaceEdges(t *testing.T) {
	end := op(impl.OpEnd)
	mustCheck(t, "nothing", impl.Space{}, 0)
	mustCheck(t, "empty lists", impl.Space{Sources: []impl.Source{}, Targets: []impl.Target{}}, 0)

	full := impl.Space{Sources: things(impl.MaxThings)}
	mustCheck(t, "200 sources", full, 0)
	mustCheck(t, "201 sources", impl.Space{Sources: things(impl.MaxThings + 1)}, 1)
	mustCheck(t, "200 sources and a target", impl.Space{Sources: full.Sources, Targets: []impl.Target{target("t", end)}}, 1)
	mustCheck(t, "199 sources and a target", impl.Space{Sources: full.Sources[1:], Targets: []impl.Target{target("t", end)}}, 0)
	mustCheck(t, "200 targets", ladder(impl.MaxThings-1, end), 0)
	mustCheck(t, "200 targets and a source", ladder(impl.MaxThings, end), 1)

	for _, name := range []string{"!", "~", "a/b", long(impl.MaxName)} {
		mustCheck(t, name, spaceOf(source(name, "")), 0)
		mustCheck(t, name, spaceOf(target(name, end)), 0)
	}
	for _, name := range []string{"", " ", "a b", "a\n", "\x7f", "\x80", "\xc3\xa4", long(impl.MaxName + 1)} {
		mustCheck(t, name, spaceOf(source("a", ""), source(name, "")), 2)
		mustCheck(t, name, spaceOf(target("a", end), target(name, end)), 2)
	}

	mustCheck(t, "a source twice", impl.Space{Sources: []impl.Source{source("a", ""), source("a", "")}}, 3)
	mustCheck(t, "a target twice", impl.Space{Targets: []impl.Target{target("a", end), target("a", end)}}, 4)
	mustCheck(t, "a beginning behind", impl.Space{Sources: []impl.Source{source("ab", ""), source("a", "")}}, 3)
	mustCheck(t, "a beginning ahead", impl.Space{Sources: []impl.Source{source("a", ""), source("ab", "")}}, 0)
	mustCheck(t, "bytes, not letters", impl.Space{Targets: []impl.Target{target("B", end), target("a", end)}}, 0)
	mustCheck(t, "letters, not bytes", impl.Space{Targets: []impl.Target{target("a", end), target("B", end)}}, 4)

	mustCheck(t, "shared, the last of each", spaceOf(source("a", ""), source("z", ""), target("b", end), target("z", end)), 5)
	mustCheck(t, "shared, the first of each", spaceOf(source("a", ""), source("z", ""), target("a", end), target("b", end)), 5)
	mustCheck(t, "a text of 2000 bytes", spaceOf(source("a", long(impl.MaxText))), 0)
	mustCheck(t, "a text of 2001 bytes", spaceOf(source("a", ""), source("b", long(impl.MaxText+1))), 6)
	mustCheck(t, "200 instructions", impl.Space{Targets: []impl.Target{{Name: "a", Action: chain(several(impl.MaxIns, end))}}}, 0)
	mustCheck(t, "201 instructions", impl.Space{Targets: []impl.Target{target("a", end), {Name: "b", Action: chain(several(impl.MaxIns+1, end))}}}, 7)
}

func mustCode(t *testing.T, what string, sp impl.Space, code, want int) {
	t.Helper()
	if code != want {
		t.Errorf("%s: code %d, not %d", what, code, want)
	}
	if code != 0 && len(sp.Sources)+len(sp.Targets) > 0 {
		t.Errorf("%s: code %d with a space", what, code)
	}
	if code == 0 && impl.CheckSpace(sp) != 0 {
		t.Errorf("%s: code 0 with a space that is not valid", what)
	}
}

func TestPutCodes(t *testing.T) {
	good, bad := program(op(impl.OpEnd)), program()
	tooLong := long(impl.MaxText + 1)
	both := func(what string, sp impl.Space, name string, want int) {
		t.Helper()
		out, code := impl.PutSource(sp, name, "x")
		mustCode(t, "a source, "+what, out, code, want)
		out, code = impl.PutTarget(sp, name, good)
		mustCode(t, "a target, "+what, out, code, want)
	}
	refused := func(what string, sp impl.Space, want int) {
		t.Helper()
		out, code := impl.PutSource(sp, "q", tooLong)
		mustCode(t, "a long text, "+what, out, code, want)
		out, code = impl.PutTarget(sp, "q", bad)
		mustCode(t, "a bad action, "+what, out, code, want)
		for _, name := range []string{"", " ", "a b", "\x7f", "\xff", long(impl.MaxName + 1)} {
			both("the name "+name+", "+what, sp, name, want)
		}
	}
	full := spaceOf(target("t", op(impl.OpEnd)))
	full.Sources = things(impl.MaxThings - 1)
	for code := 1; code <= 7; code++ {
		both("an invalid space", faultySpace(1<<(code-1)), "q", 1)
		refused("an invalid space", faultySpace(1<<(code-1)), 1)
	}
	refused("an empty space", impl.Space{}, 2)
	refused("a full space", full, 2)
	both("a full space", full, "q", 3)
	both("a full space, in the place of a source", full, "m000", 0)
	both("a full space, in the place of a target", full, "t", 0)
	almost := impl.Space{Sources: full.Sources[1:], Targets: full.Targets}
	both("a space with room for one", almost, "q", 0)
	both("a long name", impl.Space{}, long(impl.MaxName), 0)

	out, code := impl.PutSource(impl.Space{}, "a", long(impl.MaxText))
	mustCode(t, "a text of 2000 bytes", out, code, 0)
	out, code = impl.PutTarget(impl.Space{}, "a", chain(several(impl.MaxIns, op(impl.OpEnd))))
	mustCode(t, "200 instructions", out, code, 0)
	out, code = impl.PutTarget(impl.Space{}, "a", chain(several(impl.MaxIns+1, op(impl.OpEnd))))
	mustCode(t, "201 instructions", out, code, 2)
}

func TestDropCodes(t *testing.T) {
	sp := spaceOf(source("a", "x"), target("b", op(impl.OpEnd)))
	full := impl.Space{Sources: things(impl.MaxThings)}
	for _, c := range []struct {
		what string
		sp   impl.Space
		name string
		want int
	}{
		{"a source", sp, "a", 0},
		{"a target", sp, "b", 0},
		{"the last of a full space", full, "m199", 0},
		{"nothing there", sp, "c", 4},
		{"nothing there, full", full, "m200", 4},
		{"nothing at all", impl.Space{}, "a", 4},
		{"a beginning of a name", spaceOf(source("ab", "")), "a", 4},
		{"no name", sp, "", 2},
		{"a name with a space", sp, "a b", 2},
		{"a long name", sp, long(impl.MaxName), 4},
		{"too long a name", sp, long(impl.MaxName + 1), 2},
	} {
		out, code := impl.Drop(c.sp, c.name)
		mustCode(t, c.what, out, code, c.want)
	}
	for code := 1; code <= 7; code++ {
		for _, name := range []string{"b", "q", ""} {
			out, got := impl.Drop(faultySpace(1<<(code-1)), name)
			mustCode(t, "an invalid space", out, got, 1)
		}
	}
}

// A name keeps one thing: what lay there is gone, source or target.
func TestPutInThePlaceOfTheOther(t *testing.T) {
	sp := spaceOf(source("a", "1"), source("c", "3"), target("b", lit("2"), op(impl.OpEnd)), target("d", lit("4"), op(impl.OpEnd)))
	for _, c := range []struct {
		what string
		put  func() (impl.Space, int)
		want impl.Space
	}{
		{"a source for a source", func() (impl.Space, int) { return impl.PutSource(sp, "c", "new") },
			spaceOf(sp.Sources[0], source("c", "new"), sp.Targets[0], sp.Targets[1])},
		{"a source for a target", func() (impl.Space, int) { return impl.PutSource(sp, "b", "new") },
			spaceOf(sp.Sources[0], source("b", "new"), sp.Sources[1], sp.Targets[1])},
		{"a target for a source", func() (impl.Space, int) { return impl.PutTarget(sp, "c", program(op(impl.OpEnd))) },
			spaceOf(sp.Sources[0], sp.Targets[0], target("c", op(impl.OpEnd)), sp.Targets[1])},
		{"a target for a target", func() (impl.Space, int) { return impl.PutTarget(sp, "d", program(op(impl.OpEnd))) },
			spaceOf(sp.Sources[0], sp.Sources[1], sp.Targets[0], target("d", op(impl.OpEnd)))},
		{"a source between", func() (impl.Space, int) { return impl.PutSource(sp, "bb", "") },
			spaceOf(sp.Sources[0], source("bb", ""), sp.Sources[1], sp.Targets[0], sp.Targets[1])},
		{"a target ahead", func() (impl.Space, int) { return impl.PutTarget(sp, "A", program(op(impl.OpEnd))) },
			spaceOf(sp.Sources[0], sp.Sources[1], target("A", op(impl.OpEnd)), sp.Targets[0], sp.Targets[1])},
		{"without a source", func() (impl.Space, int) { return impl.Drop(sp, "a") },
			spaceOf(sp.Sources[1], sp.Targets[0], sp.Targets[1])},
		{"without a target", func() (impl.Space, int) { return impl.Drop(sp, "d") },
			spaceOf(sp.Sources[0], sp.Sources[1], sp.Targets[0])},
	} {
		got, code := c.put()
		if code != 0 || !sameSpaces(got, c.want) {
			t.Errorf("%s: code %d, %v", c.what, code, got)
		}
	}
}

// shelf is what a space ought to hold: by name a source's text or an action.
type shelf map[string]any

func (s shelf) space() impl.Space {
	var things []any
	for name, thing := range s {
		switch x := thing.(type) {
		case string:
			things = append(things, source(name, x))
		case impl.Program:
			things = append(things, impl.Target{Name: name, Action: copyOf(x)})
		}
	}
	return spaceOf(things...)
}

// edit changes the shelf and the space in the same way, and gives the space and
// the code with the code that is due.
func (s shelf) edit(d *dice, sp impl.Space) (impl.Space, int, int) {
	name := d.pick("a", "ab", "B", "b", "!", "~", long(impl.MaxName), "z")
	switch d.below(3) {
	case 0:
		text := d.text(5)
		s[name] = text
		out, code := impl.PutSource(sp, name, text)
		return out, code, 0
	case 1:
		p := anyProgram(d)
		s[name] = copyOf(p)
		out, code := impl.PutTarget(sp, name, p)
		p.Code[0] = op(99) // the answer must not hang on it
		return out, code, 0
	}
	due := 4
	if _, there := s[name]; there {
		due = 0
	}
	delete(s, name)
	out, code := impl.Drop(sp, name)
	return out, code, due
}

// Many edits, one behind the other: nothing but what was named changes, and
// neither the argument nor the answer hangs on the other.
func TestManyEdits(t *testing.T) {
	d := &dice{11}
	held := shelf{}
	var sp impl.Space
	for range 3000 {
		before := copySpace(sp)
		after, code, due := held.edit(d, sp)
		if code != due {
			t.Fatalf("code %d, not %d", code, due)
		}
		if !sameSpaces(sp, before) {
			t.Fatal("the argument was changed")
		}
		if code != 0 {
			if !sameSpaces(after, impl.Space{}) {
				t.Fatal("a code and a space")
			}
			continue
		}
		spoilSpace(sp)
		if impl.CheckSpace(after) != 0 || !sameSpaces(after, held.space()) {
			t.Fatalf("%v, not %v", after, held.space())
		}
		sp = after
	}
}

// No two lists of an answer share memory, even if those of the argument do.
func TestSpacesShareNothing(t *testing.T) {
	p := program(lit("x"), op(impl.OpEnd))
	sp := impl.Space{Targets: []impl.Target{{Name: "a", Action: p}, {Name: "b", Action: p}, {Name: "c", Action: p}}}
	for what, edit := range map[string]func() (impl.Space, int){
		"source": func() (impl.Space, int) { return impl.PutSource(sp, "c", "") },
		"target": func() (impl.Space, int) { return impl.PutTarget(sp, "c", p) },
		"drop":   func() (impl.Space, int) { return impl.Drop(sp, "c") },
	} {
		out, _ := edit()
		out.Targets[0].Action.Code[0] = lit("y")
		for i, target := range out.Targets[1:] {
			if target.Action.Code[0] != lit("x") {
				t.Errorf("%s: target %d shares the first one's code", what, i+1)
			}
		}
		if p.Code[0] != lit("x") {
			t.Fatalf("%s: the answer shares the argument's code", what)
		}
	}
}

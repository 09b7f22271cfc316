package tests

import (
	"slices"
	"testing"

	"loop.example/kilntrace/impl"
)

// What is not valid is refused by each function, and the store is handed back
// as it is, valid or not.
func TestWhatBuildRefuses(t *testing.T) {
	sp := spaceOf(source("a", "x"), target("t", copying("a")...), target("loop", copying("loop")...))
	refused := func(what string, s impl.Store, sp impl.Space, name string) {
		t.Helper()
		want := impl.Built{Code: impl.NotValid, Store: s}
		given := copyStore(s)
		if got := impl.Build(s, sp, name); !sameBuilt(got, want) {
			t.Errorf("%s: %s", what, tell(got))
		}
		for _, list := range [][]string{{name}, {name, name}, {name, "a"}, slices.Repeat([]string{name}, impl.MaxThings+1)} {
			if got := impl.BuildAll(s, sp, list); !sameBuilt(got, want) {
				t.Errorf("%s: all: %s", what, tell(got))
			}
		}
		if stale := impl.Stale(s, sp, name); len(stale) != 0 {
			t.Errorf("%s: stale %q", what, stale)
		}
		if a, b, ok := impl.Doubt(s, sp, name); a != "" || b != "" || ok {
			t.Errorf("%s: doubt %q %q %v", what, a, b, ok)
		}
		if !sameStores(s, given) {
			t.Errorf("%s: the store was changed", what)
		}
	}
	for what, s := range wrongStores() {
		for _, name := range []string{"t", "a", "nothing", "loop", ""} {
			refused(what, s, sp, name)
		}
		if got := impl.BuildAll(s, sp, nil); !sameBuilt(got, impl.Built{Code: impl.NotValid, Store: s}) {
			t.Errorf("%s: no names: %s", what, tell(got))
		}
	}
	refused("nothing at all", impl.Store{}, impl.Space{}, "")
	s := withRun(impl.Store{Width: 1}, sp, "t")
	first, second := twoForms(t, 1)
	doubtful := storeOf(1, formWithSumOf(t, "1", 1))
	for faults := 1; faults < 1<<7; faults++ {
		refused("a wrong space", s, faultySpace(faults), "c")
		refused("a wrong space", doubtful, faultySpace(faults), "q")
		if got := impl.BuildAll(s, faultySpace(faults), nil); !sameBuilt(got, impl.Built{Code: impl.NotValid, Store: s}) {
			t.Errorf("faults %07b: no names: %s", faults, tell(got))
		}
	}
	for _, name := range []string{"", " ", "a b", "a\n", "\x7f", "\x80", long(impl.MaxName + 1)} {
		refused("no name", doubtful, sp, name)
	}
	refused("two texts with one sum", storeOf(1, first, second), sp, "t")
	if impl.Build(impl.Store{Width: 1}, impl.Space{}, "a").Code != impl.Missing {
		t.Error("an empty space is a space")
	}
}

func TestMaxRecs(t *testing.T) {
	sp := spaceOf(source("s", "x"), target("one", copying("s")...), target("two", joining("one", "s")...), target("twin", copying("s")...))
	for _, there := range []int{impl.MaxRecs - 2, impl.MaxRecs - 1, impl.MaxRecs} {
		s := impl.Store{Width: 8, Records: recordsOf(there, 8)}
		room := impl.MaxRecs - there
		for name, runs := range map[string]int{"s": 0, "nothing": 0, "one": 1, "two": 2} {
			if runs > room {
				mustEnd(t, s, sp, name, impl.Built{Code: impl.Full})
			} else if b := impl.Build(s, sp, name); b.Code > impl.Below || len(b.Ran) != runs || len(b.Store.Records) != there+runs || !impl.ValidStore(b.Store) {
				t.Errorf("%s with %d records: %s", name, there, tell(b))
			}
		}
	}
	// A store that is full holds what it has.
	s := withRun(withRun(impl.Store{Width: 8, Records: recordsOf(impl.MaxRecs-2, 8)}, sp, "one"), sp, "two")
	if after := mustBuild(t, s, sp, "two", done("xx"), "", "one two"); !sameStores(after, s) {
		t.Error("the store has changed")
	}
	mustBuild(t, s, sp, "twin", done("x"), "", "twin")
	changed, _ := impl.PutSource(sp, "s", "y")
	mustEnd(t, s, changed, "twin", impl.Built{Code: impl.Full})
	mustBuildAll(t, s, changed, []string{"s", "twin", "nothing"}, impl.Built{Code: impl.Full, Store: s})
	// The next name finds the room that the one before has left.
	s = impl.Store{Width: 8, Records: recordsOf(impl.MaxRecs-1, 8)}
	mustBuildAll(t, s, sp, []string{"one", "two"}, impl.Built{Code: impl.Full, Store: s})
	if b := impl.BuildAll(s, sp, []string{"one", "twin", "one"}); b.Code != impl.Done || len(b.Store.Records) != impl.MaxRecs || len(b.Held) != 2 {
		t.Errorf("%s", tell(b))
	}
}

func TestMaxBlobs(t *testing.T) {
	sp := spaceOf(source("s", "x"), target("t", lit("s"), op(impl.OpAsk), op(impl.OpDrop), lit("out"), op(impl.OpEnd)), target("u", copying("s")...), target("v", copying("t")...))
	for _, there := range []int{impl.MaxBlobs - 2, impl.MaxBlobs - 1, impl.MaxBlobs} {
		s := fullStore(t, there)
		room := impl.MaxBlobs - there
		for name, put := range map[string]int{"s": 0, "t": 2, "u": 1, "v": 2} {
			if put > room {
				mustEnd(t, s, sp, name, impl.Built{Code: impl.Full})
			} else if b := impl.Build(s, sp, name); b.Code > impl.Below || len(b.Store.Texts) != there+put || !impl.ValidStore(b.Store) || !allVouched(b.Store) {
				t.Errorf("%s with %d texts: %s", name, there, tell(b))
			}
		}
	}
	// Texts that are there need no room, and no look that was an OpHas has one.
	s := mustPut(t, mustPut(t, fullStore(t, impl.MaxBlobs-2), "0:x"), "0:out")
	after := mustBuild(t, s, sp, "v", done("out"), "t v", "")
	if !slices.Equal(after.Texts, s.Texts) || len(after.Records) != 2 {
		t.Error("the texts have changed")
	}
	sp, _ = impl.PutTarget(sp, "has", program(lit("s"), op(impl.OpHas), op(impl.OpDrop), lit("x"), op(impl.OpEnd)))
	mustBuild(t, s, sp, "has", done("x"), "has", "")
	// A record that holds puts nothing: not what it looked at either.
	sp, _ = impl.PutSource(sp, "s", "y")
	s.Records = []impl.Record{lie(program(copying("s")...), "0:out", 2, asked("s", "0:y"))}
	mustBuild(t, s, sp, "u", done("out"), "", "u")
	mustEnd(t, s, sp, "t", impl.Built{Code: impl.Full})
}

// Where a clash, a full store, a circle and a depth come together, that one is
// told which is met first.
func TestWhichEndComesFirst(t *testing.T) {
	full := fullStore(t, impl.MaxBlobs)
	inside := full.Texts[100]
	clash := formWithSumOf(t, inside, 2)[2:]
	looksThen := func(code int, text string, names ...string) []impl.Ins {
		var out []impl.Ins
		for _, name := range names {
			out = append(out, lit(name), op(impl.OpAsk), op(impl.OpDrop))
		}
		return append(out, lit(text), op(code))
	}
	sp := spaceOf(source("new", "x"), source("clash", clash), source("there", inside[2:]),
		target("new.clash", joining("there", "new", "clash")...), target("clash.new", joining("there", "clash", "new")...),
		target("new.out", looksThen(impl.OpEnd, clash, "there", "new")...), target("clash.out", looksThen(impl.OpEnd, "out", "there", "clash")...),
		target("out.clash", looksThen(impl.OpEnd, clash, "there")...), target("out.new", looksThen(impl.OpEnd, "out", "there")...),
		target("self", joining("new", "clash", "self")...), target("late", joining("out.clash", "late")...), target("late.full", joining("out.new", "late.full")...),
		target("of.loop", joining("loop", "out.clash")...), target("loop", copying("of.loop")...))
	isFull := impl.Built{Code: impl.Full}
	isClash := impl.Built{Code: impl.Clashed, A: inside, B: "0:" + clash}
	for name, want := range map[string]impl.Built{
		"new.clash": isFull, "clash.new": isClash, "new.out": isFull, "clash.out": isClash, "out.clash": isClash, "out.new": isFull,
		"self": {Code: impl.Circle, Chain: []string{"self"}}, "late": isClash, "late.full": isFull,
		"of.loop": {Code: impl.Circle, Chain: []string{"of.loop", "loop"}},
	} {
		mustEnd(t, full, sp, name, want)
	}
	// The records are counted behind the texts.
	full.Records = recordsOf(impl.MaxRecs, 2)
	mustEnd(t, full, sp, "clash.out", isClash)
	mustEnd(t, full, sp, "new.clash", isFull)
	some := storeOf(2, inside)
	some.Records = recordsOf(impl.MaxRecs, 2)
	mustEnd(t, some, sp, "new.clash", isClash)
	mustEnd(t, some, sp, "out.clash", isClash)
	mustEnd(t, some, sp, "out.new", isFull)
	some.Records = some.Records[1:]
	mustEnd(t, some, sp, "new.clash", isClash)
	if b := impl.Build(some, sp, "out.new"); b.Code != impl.Done || len(b.Store.Records) != impl.MaxRecs {
		t.Errorf("%s", tell(b))
	}
	mustBuildAll(t, some, sp, []string{"out.new", "out.clash", "of.loop"}, impl.Built{Code: impl.Clashed, A: isClash.A, B: isClash.B, Store: some})
	mustBuildAll(t, some, sp, []string{"out.new", "of.loop", "out.clash"}, impl.Built{Code: impl.Circle, Chain: []string{"of.loop", "loop"}, Store: some})
}

// Depth while records are tried is that of a run, and both may be mixed.
func TestDepthOfBuild(t *testing.T) {
	const most = impl.MaxDepth
	empty := impl.Store{Width: 8}
	exact, tooDeep := ladder(most, copying("s")...), ladder(most+1, copying("s")...)
	s := mustBuild(t, empty, exact, rung(0), done("given"), ladderRan(most-1, 0), "")
	mustBuild(t, s, exact, rung(0), done("given"), "", ladderRan(most-1, 0))
	mustEnd(t, empty, tooDeep, rung(0), builtOf(ended(impl.Deep, rung(most)), empty))
	// The last one has now the action of the one ahead of it, which has another.
	mustEnd(t, s, tooDeep, rung(0), builtOf(ended(impl.Deep, rung(most)), s))
	mustBuild(t, s, tooDeep, rung(1), done("given"), rung(most-1), rung(most)+ladderRan(most-2, 1))
	all := withRun(s, tooDeep, rung(most-1))
	mustBuild(t, all, tooDeep, rung(1), done("given"), "", ladderRan(most, 1))
	mustEnd(t, all, tooDeep, rung(0), builtOf(ended(impl.Deep, rung(most)), all))
	// One in the midst has no record that holds.
	mixed, _ := impl.PutTarget(exact, rung(30), program(append(copying(rung(31)), op(impl.OpEnd))...))
	mustBuild(t, s, mixed, rung(0), done("given"), rung(30), ladderRan(most-1, 31)+ladderRan(29, 0))
	mixed, _ = impl.PutTarget(tooDeep, rung(30), program(append(copying(rung(31)), op(impl.OpEnd))...))
	mustEnd(t, all, mixed, rung(0), builtOf(ended(impl.Deep, rung(most)), all))
	// What has been made is not too deep.
	sp, _ := impl.PutTarget(tooDeep, rung(0), program(joining(rung(most), rung(1))...))
	s = mustBuild(t, all, sp, rung(0), done("givengiven"), rung(0), ladderRan(most, 1))
	mustBuild(t, s, sp, rung(0), done("givengiven"), "", ladderRan(most, 0))
	// A circle is looked for ahead of the depth.
	var path []string
	for i := range most {
		path = append(path, rung(i))
	}
	last := program(lit("end"), op(impl.OpEnd))
	round, _ := impl.PutTarget(exact, rung(most-1), last)
	for _, back := range []int{0, 7, most - 1} {
		s = storeOf(8, "0:end")
		s.Records = []impl.Record{lie(last, "0:end", 8, asked(rung(back), "0:end"))}
		mustClean(t, round, rung(0), done("end"))
		mustEnd(t, s, round, rung(0), builtOf(circle(path[back:]...), s))
	}
}

// Circle and Deep that no run would meet, but a record that lies leads there.
func TestEndsMetByALie(t *testing.T) {
	p := program(lit("ran"), op(impl.OpEnd))
	sp := spaceOf(source("s", "x"), impl.Target{Name: "t", Action: p}, target("up", joining("s", "t")...), target("top", joining("up", "s")...), target("b", copying("c")...), target("c", copying("b")...))
	lying := func(looks ...impl.Seen) impl.Store {
		s := storeOf(8, "0:lie")
		s.Records = []impl.Record{lie(p, "0:lie", 8, looks...)}
		return s
	}
	for name, chain := range map[string][]string{"t": {"t", "up"}, "up": {"up", "t"}, "top": {"up", "t"}} {
		s := lying(asked("up", "0:any"))
		mustEnd(t, s, sp, name, builtOf(circle(chain...), s))
	}
	for _, name := range []string{"t", "up", "top"} {
		s := lying(asked("t", "0:lie"))
		mustEnd(t, s, sp, name, builtOf(circle("t"), s))
		s = lying(asked("s", "0:x"), asked("b", "0:any"))
		mustEnd(t, s, sp, name, builtOf(circle("b", "c"), s))
	}
	// What differs ahead of it, or is only had, leads nowhere.
	mustBuild(t, lying(asked("s", "0:y"), asked("t", "0:lie")), sp, "t", done("ran"), "t", "")
	mustBuild(t, lying(hasSaid("t", "1"), hasSaid("b", "1")), sp, "t", done("lie"), "", "t")
	mustBuild(t, lying(hasSaid("t", "0"), asked("t", "0:lie")), sp, "t", done("ran"), "t", "")
	deep := ladder(impl.MaxDepth+1, copying("s")...)
	deep, _ = impl.PutTarget(deep, rung(impl.MaxDepth-1), p)
	mustClean(t, deep, rung(0), done("ran"))
	for _, said := range []string{"0:given", "0:other"} {
		s := lying(asked(rung(impl.MaxDepth), said))
		mustEnd(t, s, deep, rung(0), builtOf(ended(impl.Deep, rung(impl.MaxDepth)), s))
	}
	mustBuild(t, lying(asked(rung(impl.MaxDepth), "0:given")), deep, rung(1), done("lie"), rung(impl.MaxDepth)+ladderRan(impl.MaxDepth-2, 1), rung(impl.MaxDepth-1))
}

// spoilBuilt writes over everything that can be written to in an answer.
func spoilBuilt(b impl.Built) {
	spoilStore(b.Store)
	for _, list := range [][]string{b.Chain, b.Ran, b.Held} {
		for i := range list[:cap(list)] {
			list[:cap(list)][i] = "!spoilt"
		}
	}
}

func TestBuildsShareNothing(t *testing.T) {
	sp := spaceOf(source("s", "x"), target("one", copying("s")...), target("two", joining("one", "s")...), target("twin", copying("s")...), target("new", joining("two", "twin")...), target("loop", copying("loop")...))
	s := withRun(withRun(impl.Store{Width: 8}, sp, "one"), sp, "two")
	s.Texts, s.Records = slices.Grow(s.Texts, 9), slices.Grow(s.Records, 9) // room in which nothing may be put
	given, givenSpace := copyStore(s), copySpace(sp)
	for _, list := range [][]string{{"new"}, {"two"}, {"s"}, {"loop"}, {"new", "one", "twin"}, {"new", "loop"}, {"", "new"}, {}} {
		givenList := slices.Clone(list)
		answer := func() impl.Built {
			if len(list) == 1 {
				return impl.Build(s, sp, list[0])
			}
			return impl.BuildAll(s, sp, list)
		}
		one, two := answer(), answer()
		want := copyBuilt(one)
		if !sameBuilt(two, want) {
			t.Fatalf("%q: two answers", list)
		}
		mustBeApart(t, brief(list), one.Store)
		// Each list is written over alone, to the end of its room.
		for i, part := range [][]string{one.Chain, one.Ran, one.Held, one.Store.Texts} {
			left := copyBuilt(one)
			for j := range part[:cap(part)] {
				part[:cap(part)][j] = "!spoilt"
			}
			for k, other := range [][]string{one.Chain, one.Ran, one.Held, one.Store.Texts} {
				if k != i && !slices.Equal(other, [][]string{left.Chain, left.Ran, left.Held, left.Store.Texts}[k]) {
					t.Errorf("%q: list %d shares memory with list %d", list, i, k)
				}
			}
		}
		spoilBuilt(one)
		if !sameStores(s, given) || !sameSpaces(sp, givenSpace) || !slices.Equal(list, givenList) || !sameBuilt(two, want) {
			t.Errorf("%q: the answer shares memory with an argument or another answer", list)
		}
		if behind := s.Texts[:len(s.Texts)+1][len(s.Texts)]; behind != "" || s.Records[:len(s.Records)+1][len(s.Records)].Out != "" {
			t.Errorf("%q: something was put behind the argument", list)
		}
	}
	kept := impl.Build(s, sp, "new")
	want := copyBuilt(kept)
	impl.Stale(s, sp, "new")[0] = "!spoilt"
	spoilStore(s)
	spoilSpace(sp)
	if !sameBuilt(kept, want) {
		t.Error("the answer shares memory with an argument")
	}
}

func copyBuilt(b impl.Built) impl.Built {
	b.Store = copyStore(b.Store)
	b.Chain, b.Ran, b.Held = append([]string(nil), b.Chain...), append([]string(nil), b.Ran...), append([]string(nil), b.Held...)
	return b
}

// A store that is not valid is handed back in new memory, too.
func TestRefusedStoresShareNothing(t *testing.T) {
	sp := spaceOf(source("s", "x"))
	for what, s := range wrongStores() {
		given := copyStore(s)
		b := impl.Build(s, sp, "s")
		spoilBuilt(b)
		all := impl.BuildAll(s, sp, nil)
		spoilBuilt(all)
		if !sameStores(s, given) {
			t.Errorf("%s: the answer shares memory with the argument", what)
		}
	}
}

// A store with as many records as it may have but one, all of one action, which
// differ at their last look: each is tried for the first of many targets.
func TestBuildWithMuch(t *testing.T) {
	var code []impl.Ins
	for range 66 {
		code = append(code, lit("s"), op(impl.OpHas), op(impl.OpDrop))
	}
	looking := program(append(code, lit(""), op(impl.OpEnd))...)
	sp := spaceOf(source("s", "x"))
	var all []string
	for i := range 60 {
		sp.Targets = append(sp.Targets, impl.Target{Name: rung(i), Action: looking})
		all = append(all, rung(i))
	}
	sp.Targets = append(sp.Targets, target("top", joining(all...)...))
	looks, r := impl.Trail(sp, rung(0))
	s := storeOf(8, impl.FormResult(r))
	for range impl.MaxRecs - 2 {
		record := impl.Note(looking, looks, r, 8)
		record.Looks[len(looks)-1].Sum = impl.Sum("0", 8)
		s.Records = append(s.Records, record)
	}
	b := impl.BuildAll(s, sp, append(slices.Clone(all), "top"))
	if b.Code != impl.Done || !slices.Equal(b.Ran, []string{rung(0), "top"}) || len(b.Held) != 2*len(all)-1 || len(b.Store.Records) != impl.MaxRecs {
		t.Errorf("%s", tell(b))
	}
	b = impl.Build(s, sp, "top")
	if b.Code != impl.Done || !slices.Equal(b.Ran, []string{rung(0), "top"}) || !slices.Equal(b.Held, all[1:]) {
		t.Errorf("%s", tell(b))
	}
}

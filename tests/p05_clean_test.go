package tests

import (
	"slices"
	"strconv"
	"strings"
	"testing"

	"loop.example/kilntrace/impl"
)

func done(text string) impl.Result { return impl.Result{Code: impl.Done, Text: text} }

func ended(code int, text string) impl.Result { return impl.Result{Code: code, Text: text} }

func circle(names ...string) impl.Result { return impl.Result{Code: impl.Circle, Chain: names} }

func sameResults(a, b impl.Result) bool {
	return a.Code == b.Code && a.Text == b.Text && slices.Equal(a.Chain, b.Chain)
}

func mustClean(t *testing.T, sp impl.Space, name string, want impl.Result) {
	t.Helper()
	if code := impl.CheckSpace(sp); code != 0 {
		t.Fatalf("the space of the test has code %d", code)
	}
	if got := impl.Clean(sp, name); !sameResults(got, want) {
		t.Errorf("%s: %s, not %s", name, brief(got), brief(want))
	}
}

func TestCleanOfEachEnd(t *testing.T) {
	sp := spaceOf(
		source("s", "one two"), source("empty", ""), source("long", long(impl.MaxText)), source("which", "s"),
		target("copy", copying("s")...),
		target("word", lit("s"), op(impl.OpAsk), opN(impl.OpWord, 1), op(impl.OpEnd)),
		target("follow", lit("which"), op(impl.OpAsk), op(impl.OpAsk), op(impl.OpEnd)),
		target("fails", lit("why"), op(impl.OpFail)),
		target("stuck", lit("x"), op(impl.OpCat)),
		target("noname", lit("empty"), op(impl.OpAsk), op(impl.OpAsk), op(impl.OpEnd)),
		target("spent", opN(impl.OpJump, 0)),
		target("missing", copying("nothing")...),
		target("of.copy", joining("copy", "word", "long0")...),
		target("long0", lit("long"), op(impl.OpAsk), opN(impl.OpCut, 3), op(impl.OpEnd)),
		target("of.fails", copying("fails")...),
		target("of.stuck", copying("stuck")...),
		target("of.spent", copying("spent")...),
		target("of.missing", copying("missing")...),
		target("of.below", copying("of.missing")...),
		target("first", joining("s", "missing", "fails")...),
		target("too.long", joining("long", "s")...),
		target("all", copying("long")...),
	)
	for name, want := range map[string]impl.Result{
		"s": done("one two"), "empty": done(""), "long": done(long(impl.MaxText)), "all": done(long(impl.MaxText)),
		"nothing": ended(impl.Missing, "nothing"), "sp": ended(impl.Missing, "sp"),
		"copy": done("one two"), "word": done("two"), "follow": done("one two"), "of.copy": done("one twotwoxxx"),
		"fails": ended(impl.Failed, "why"), "stuck": ended(impl.Stuck, "1"), "noname": ended(impl.Stuck, "2"),
		"spent": ended(impl.Spent, ""), "missing": ended(impl.Missing, "nothing"), "too.long": ended(impl.Stuck, "6"),
		"of.fails": ended(impl.Below, "fails"), "of.stuck": ended(impl.Below, "stuck"), "of.spent": ended(impl.Below, "spent"),
		"of.missing": ended(impl.Below, "missing"), "of.below": ended(impl.Below, "of.missing"), "first": ended(impl.Below, "missing"),
		long(impl.MaxName): ended(impl.Missing, long(impl.MaxName)),
	} {
		mustClean(t, sp, name, want)
	}
}

func TestWhatCleanRefuses(t *testing.T) {
	refused := impl.Result{Code: impl.NotValid}
	sp := spaceOf(source("a", "x"))
	for _, name := range []string{"", " ", "a b", "a\n", "\x7f", "\x80", long(impl.MaxName + 1)} {
		mustClean(t, sp, name, refused)
	}
	for faults := 1; faults < 1<<7; faults++ {
		for _, name := range []string{"b", "c", "q", ""} {
			if got := impl.Clean(faultySpace(faults), name); !sameResults(got, refused) {
				t.Errorf("faults %07b: %v", faults, got)
			}
		}
	}
}

// OpHas makes nothing, so it can't be ended by anything that is wrong there.
func TestHas(t *testing.T) {
	of := func(name string) impl.Target {
		return target("of."+name, lit(name), op(impl.OpHas), op(impl.OpEnd))
	}
	sp := spaceOf(source("s", ""), target("t", lit("x"), op(impl.OpEnd)), target("fails", lit("x"), op(impl.OpFail)),
		target("self", lit("self"), op(impl.OpHas), op(impl.OpEnd)), target("loop", copying("loop")...),
		target("up", copying("down")...), target("down", lit("up"), op(impl.OpHas), op(impl.OpEnd)),
		of("s"), of("t"), of("fails"), of("loop"), of("nothing"), of("of.nothing"))
	for name, want := range map[string]string{"of.s": "1", "of.t": "1", "of.fails": "1", "of.loop": "1", "self": "1", "up": "1",
		"of.nothing": "0", "of.of.nothing": "1"} {
		mustClean(t, sp, name, done(want))
	}
	deep := ladder(impl.MaxDepth, lit(rung(impl.MaxDepth)), op(impl.OpHas), op(impl.OpEnd))
	mustClean(t, deep, rung(0), done("0"))
	deep.Targets = append(deep.Targets, target(rung(impl.MaxDepth), lit("x"), op(impl.OpEnd)))
	mustClean(t, deep, rung(0), done("1"))
}

func TestCircles(t *testing.T) {
	sp := spaceOf(source("s", "x"),
		target("self", copying("self")...),
		target("a", joining("s", "b")...), target("b", joining("fine", "c")...), target("c", joining("s", "a")...),
		target("fine", copying("s")...),
		target("top", copying("mid")...), target("mid", joining("fine", "b")...),
		target("of.self", joining("self", "nothing")...),
		target("late", joining("nothing", "late")...),
		target("either", lit("s"), op(impl.OpAsk), opN(impl.OpUnless, 5), lit("s"), opN(impl.OpJump, 6), lit("either"), op(impl.OpAsk), op(impl.OpEnd)),
	)
	for name, want := range map[string]impl.Result{
		"self": circle("self"), "of.self": circle("self"),
		"a": circle("a", "b", "c"), "b": circle("b", "c", "a"), "c": circle("c", "a", "b"),
		"mid": circle("b", "c", "a"), "top": circle("b", "c", "a"),
		"late": ended(impl.Missing, "nothing"), "either": done("x"), "fine": done("x"),
	} {
		mustClean(t, sp, name, want)
	}
	// What an asking run would do behind a circle plays no part.
	sp, _ = impl.PutSource(sp, "s", "0")
	mustClean(t, sp, "either", circle("either"))
}

func TestDepth(t *testing.T) {
	const most = impl.MaxDepth
	mustClean(t, ladder(most, copying("s")...), rung(0), done("given"))
	mustClean(t, ladder(most, copying("nothing")...), rung(most-1), ended(impl.Missing, "nothing"))
	mustClean(t, ladder(most, copying("nothing")...), rung(0), ended(impl.Below, rung(1)))
	tooDeep := ladder(most+1, copying("s")...)
	mustClean(t, tooDeep, rung(0), ended(impl.Deep, rung(most)))
	mustClean(t, tooDeep, rung(1), done("given"))
	mustClean(t, ladder(199, copying("s")...), rung(0), ended(impl.Deep, rung(most)))
	mustClean(t, ladder(199, copying("s")...), rung(199-most), done("given"))
	mustClean(t, ladder(199, copying("s")...), rung(198-most), ended(impl.Deep, rung(198)))

	// A circle is looked for ahead: also where as many are being made as may be.
	var all []string
	for i := range most {
		all = append(all, rung(i))
	}
	for _, back := range []int{0, 1, most / 2, most - 1} {
		mustClean(t, ladder(most, copying(rung(back))...), rung(0), circle(all[back:]...))
		mustClean(t, ladder(most+1, copying(rung(back))...), rung(0), ended(impl.Deep, rung(most)))
		mustClean(t, ladder(most-1, copying(rung(back%(most-1)))...), rung(0), circle(all[back%(most-1):most-1]...))
	}
}

// What was made once is made: it is neither too deep nor made again.
func TestMadeOnce(t *testing.T) {
	const most = impl.MaxDepth
	sp := ladder(most, copying("leaf")...)
	sp.Targets = append([]impl.Target{target("leaf", copying("s")...)}, sp.Targets...)
	mustClean(t, sp, rung(1), done("given"))
	mustClean(t, sp, rung(0), ended(impl.Deep, "leaf"))
	sp, _ = impl.PutTarget(sp, rung(0), program(joining("leaf", rung(1))...))
	mustClean(t, sp, rung(0), done("givengiven"))
	sp, _ = impl.PutTarget(sp, rung(0), program(joining(rung(1), "leaf")...))
	mustClean(t, sp, rung(0), ended(impl.Deep, "leaf"))
	sp, _ = impl.PutTarget(sp, rung(0), program(lit("leaf"), op(impl.OpHas), op(impl.OpDrop), lit(rung(1)), op(impl.OpAsk), op(impl.OpEnd)))
	mustClean(t, sp, rung(0), ended(impl.Deep, "leaf"))

	// Each asks twice for the next: 2 to the 59th runs, if it were made again.
	var doubled impl.Space
	for i := range most {
		code := []impl.Ins{lit(rung(i + 1)), op(impl.OpAsk), op(impl.OpDrop), lit(rung(i + 1)), op(impl.OpAsk), op(impl.OpEnd)}
		doubled.Targets = append(doubled.Targets, target(rung(i), code...))
	}
	doubled.Sources = []impl.Source{source(rung(most), "end")}
	mustClean(t, doubled, rung(0), done("end"))
	doubled.Sources = nil
	mustClean(t, doubled, rung(most-1), ended(impl.Missing, rung(most)))
	mustClean(t, doubled, rung(0), ended(impl.Below, rung(1)))
}

// reference makes names as the document tells it, each run by replays of Next.
type reference struct {
	sp     impl.Space
	made   map[string]impl.Result
	trails map[string][]impl.Seen
	looked map[string]bool
	asked  []string
	path   []string
}

func referenceFor(sp impl.Space) *reference {
	return &reference{sp: sp, made: map[string]impl.Result{}, trails: map[string][]impl.Seen{}, looked: map[string]bool{}}
}

func thingOf(sp impl.Space, name string) (impl.Source, impl.Target, bool) {
	for _, s := range sp.Sources {
		if s.Name == name {
			return s, impl.Target{}, true
		}
	}
	for _, t := range sp.Targets {
		if t.Name == name {
			return impl.Source{}, t, true
		}
	}
	return impl.Source{}, impl.Target{}, false
}

// lies gives what lies under a name; false if that ends all that is being made.
func (ref *reference) lies(name string) (impl.Result, bool) {
	ref.looked[name] = true
	if !slices.Contains(ref.asked, name) {
		ref.asked = append(ref.asked, name)
	}
	if r, made := ref.made[name]; made {
		return r, true
	}
	given, action, there := thingOf(ref.sp, name)
	var r impl.Result
	ok := true
	switch {
	case !there:
		r = ended(impl.Missing, name)
	case given.Name != "":
		r = done(given.Text)
	case slices.Contains(ref.path, name):
		return circle(ref.path[slices.Index(ref.path, name):]...), false
	case len(ref.path) >= impl.MaxDepth:
		return ended(impl.Deep, name), false
	default:
		ref.path = append(ref.path[:len(ref.path):len(ref.path)], name)
		r, ok = ref.run(action)
		ref.path = ref.path[:len(ref.path)-1]
	}
	if ok {
		ref.made[name] = r
	}
	return r, ok
}

func (ref *reference) run(of impl.Target) (impl.Result, bool) {
	var replies []impl.Reply
	var trail []impl.Seen
	for {
		turn := impl.Next(of.Action, replies)
		if turn.Over {
			ref.trails[of.Name] = trail
			return ended(turn.Code, turn.Text), true
		}
		ref.looked[turn.Name] = true
		_, _, there := thingOf(ref.sp, turn.Name)
		reply, seen := impl.Reply{Has: there}, oneOrZero(there)
		if turn.Ask {
			r, ok := ref.lies(turn.Name)
			if !ok {
				return r, false
			}
			reply.Code, reply.Text = r.Code, r.Text
			seen = strconv.Itoa(r.Code) + ":" + r.Text
		}
		replies = append(replies, reply)
		trail = append(trail, impl.Seen{Name: turn.Name, Ask: turn.Ask, Said: seen})
	}
}

var fewNames = []string{"a", "b", "c", "d", "e", "f", "g", "h"}

// Clean answers as the reference does, for spaces of all kinds.
func TestCleanAsTold(t *testing.T) {
	d := &dice{21}
	ends := map[int]int{}
	for range 3000 {
		sp := anySpace(d)
		given := copySpace(sp)
		for _, name := range fewNames {
			want, _ := referenceFor(sp).lies(name)
			mustClean(t, sp, name, want)
			ends[want.Code]++
		}
		if !sameSpaces(sp, given) {
			t.Fatal("the space was changed")
		}
		if t.Failed() {
			t.Fatalf("in %v", sp)
		}
	}
	for _, code := range []int{impl.Done, impl.Failed, impl.Stuck, impl.Spent, impl.Missing, impl.Below, impl.Circle} {
		if ends[code] < 50 {
			t.Errorf("only %d names end with code %d", ends[code], code)
		}
	}
}

// What lies under names that are not looked at may be anything.
func TestCleanHangsOnItsLooksAlone(t *testing.T) {
	d := &dice{22}
	changed := 0
	for range 1500 {
		sp := anySpace(d)
		name := fewNames[d.below(len(fewNames))]
		ref := referenceFor(sp)
		want, _ := ref.lies(name)
		other := anySpace(d)
		for _, at := range fewNames {
			if ref.looked[at] {
				continue
			}
			changed++
			if without, code := impl.Drop(sp, at); code == 0 {
				sp = without
			}
			given, made, there := thingOf(other, at)
			if given.Name != "" {
				sp, _ = impl.PutSource(sp, at, given.Text)
			} else if there {
				sp, _ = impl.PutTarget(sp, at, made.Action)
			}
		}
		mustClean(t, sp, name, want)
	}
	if changed < 1500 {
		t.Errorf("only %d names were changed", changed)
	}
}

// A chain that is handed out is new each time.
func TestCleanKeepsNothing(t *testing.T) {
	sp := spaceOf(target("a", copying("b")...), target("b", copying("a")...))
	impl.Clean(sp, "a").Chain[0] = "spoilt"
	mustClean(t, sp, "a", circle("a", "b"))
	chain := append(impl.Clean(sp, "b").Chain, "more")
	mustClean(t, sp, "b", circle("b", "a"))
	if strings.Join(chain, " ") != "b a more" {
		t.Error(chain)
	}
}

// The largest of spaces, in which every action takes as many steps as it may.
func TestCleanOfMuch(t *testing.T) {
	sp := spaceOf(source("s", "x"))
	var tops []string
	for i := range 3 {
		var names []string
		for j := range 65 {
			name := rung(65*i + j)
			names = append(names, name)
			sp.Targets = append(sp.Targets, impl.Target{Name: name, Action: counting(op(impl.OpEnd))})
		}
		tops = append(tops, "u"+strconv.Itoa(i))
		sp.Targets = append(sp.Targets, target(tops[i], joining(names...)...))
	}
	sp.Targets = append(sp.Targets, target("v", joining(append(tops, "s")...)...))
	sortSpace(sp)
	if n := len(sp.Sources) + len(sp.Targets); n != impl.MaxThings {
		t.Fatalf("%d things", n)
	}
	mustClean(t, sp, "v", done("x"))
}

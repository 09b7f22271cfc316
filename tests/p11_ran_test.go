package tests

import (
	"slices"
	"testing"

	"loop.example/kilntrace/impl"
)

// Records that hold, and records that do not, each at its place.
func TestWhichRecordsHold(t *testing.T) {
	sp := spaceOf(source("a", "x y"), source("b", "u"), target("t", joining("a", "b")...), target("other", joining("b", "a")...),
		target("has", lit("a"), op(impl.OpHas), lit("q"), op(impl.OpHas), op(impl.OpCat), op(impl.OpEnd)))
	empty := impl.Store{Width: 8}
	s := mustBuild(t, empty, sp, "t", done("x yu"), "t", "")
	want := impl.Store{Width: 8, Texts: bySums(8, []string{"0:x y", "0:u", "0:x yu"}),
		Records: []impl.Record{{Action: program(joining("a", "b")...), Looks: []impl.Glance{askedSum("a", impl.Sum("0:x y", 8)), askedSum("b", impl.Sum("0:u", 8))}, Out: impl.Sum("0:x yu", 8)}}}
	if !sameStores(s, want) {
		t.Errorf("%v, not %v", s, want)
	}
	if again := mustBuild(t, s, sp, "t", done("x yu"), "", "t"); !sameStores(again, s) {
		t.Errorf("the store has become %v", again)
	}
	mustBuild(t, s, sp, "other", done("ux y"), "other", "")
	first, _ := impl.PutSource(sp, "a", "x")
	mustBuild(t, s, first, "t", done("xu"), "t", "")
	last, _ := impl.PutSource(sp, "b", "v")
	mustBuild(t, s, last, "t", done("x yv"), "t", "")
	gone, _ := impl.Drop(sp, "b")
	mustBuild(t, s, gone, "t", ended(impl.Missing, "b"), "t", "")
	made, _ := impl.PutTarget(sp, "b", program(lit("u"), op(impl.OpEnd)))
	mustBuild(t, s, made, "t", done("x yu"), "b", "t")
	// It is the result that is held against the record, not only its text.
	failed, _ := impl.PutTarget(sp, "b", program(lit("u"), op(impl.OpFail)))
	mustBuild(t, s, failed, "t", ended(impl.Below, "b"), "b t", "")
	unlooked, _ := impl.PutSource(sp, "c", "new")
	mustBuild(t, s, unlooked, "t", done("x yu"), "", "t")
	changed, _ := impl.PutTarget(sp, "t", program(append(joining("a", "b"), op(impl.OpEnd))...))
	mustBuild(t, s, changed, "t", done("x yu"), "t", "")

	s = mustBuild(t, empty, sp, "has", done("10"), "has", "")
	mustBuild(t, s, sp, "has", done("10"), "", "has")
	mustBuild(t, s, first, "has", done("10"), "", "has")
	asTarget, _ := impl.PutTarget(sp, "a", program(copying("a")...))
	mustBuild(t, s, asTarget, "has", done("10"), "", "has")
	without, _ := impl.Drop(sp, "a")
	mustBuild(t, s, without, "has", done("00"), "has", "")
	more, _ := impl.PutSource(sp, "q", "")
	mustBuild(t, s, more, "has", done("11"), "has", "")
}

// What is neither run nor held: names that are no targets.
func TestBuildOfEachName(t *testing.T) {
	sp := spaceOf(source("a", "x"), target("t", copying("a")...), target("fails", lit("why"), op(impl.OpFail)), target("of.fails", copying("fails")...))
	s := withRun(impl.Store{Width: 3}, sp, "t")
	s.Records = append(s.Records, recordOf(3))
	for name, want := range map[string]impl.Result{"a": done("x"), "nothing": ended(impl.Missing, "nothing"), long(impl.MaxName): ended(impl.Missing, long(impl.MaxName))} {
		if after := mustBuild(t, s, sp, name, want, "", ""); !sameStores(after, s) {
			t.Errorf("%s: the store has become %v", name, after)
		}
	}
	mustBuild(t, s, sp, "t", done("x"), "", "t")
	s = mustBuild(t, s, sp, "of.fails", ended(impl.Below, "fails"), "fails of.fails", "")
	mustBuild(t, s, sp, "of.fails", ended(impl.Below, "fails"), "", "fails of.fails")
	for _, name := range []string{"", " ", "a b", "\x7f", long(impl.MaxName + 1)} {
		mustEnd(t, s, sp, name, impl.Built{Code: impl.NotValid})
	}
}

// A record that another target with the same action has put holds in the same
// build; so does one of another space.
func TestOneActionOfTwoTargets(t *testing.T) {
	sp := spaceOf(source("s", "x"), target("one", copying("s")...), target("two", copying("s")...), target("far", copying("one")...),
		target("top", joining("far", "two", "one", "two")...))
	s := mustBuild(t, impl.Store{Width: 8}, sp, "top", done("xxxx"), "one far top", "two")
	if len(s.Records) != 3 {
		t.Errorf("%d records", len(s.Records))
	}
	s = mustBuild(t, s, sp, "top", done("xxxx"), "", "one far two top")
	elsewhere := spaceOf(source("s", "x"), source("one", "x"), target("quite.other", copying("s")...), target("near", copying("one")...))
	mustBuild(t, s, elsewhere, "quite.other", done("x"), "", "quite.other")
	mustBuild(t, s, elsewhere, "near", done("x"), "", "near")
	elsewhere, _ = impl.PutSource(elsewhere, "s", "y")
	mustBuild(t, s, elsewhere, "quite.other", done("y"), "quite.other", "")
	mustBuild(t, s, elsewhere, "near", done("x"), "", "near")
}

// lie gives a record of an action that ends with a form, whatever a run does.
func lie(p impl.Program, form string, width int, looks ...impl.Seen) impl.Record {
	r := impl.Record{Action: p, Out: impl.Sum(form, width)}
	for _, seen := range looks {
		r.Looks = append(r.Looks, glanceOf(seen, width))
	}
	return r
}

// The turns of records: in their order, each by what the store has by then.
func TestTurnsOfRecords(t *testing.T) {
	p := program(lit("ran"), op(impl.OpEnd))
	sp := spaceOf(source("s", "x"), impl.Target{Name: "t", Action: p}, target("u", copying("s")...), target("v", lit("text"), op(impl.OpEnd)))
	with := func(texts []string, records ...impl.Record) impl.Store {
		s := storeOf(8, texts...)
		s.Records = records
		return s
	}
	texts := []string{"0:one", "0:two", "1:why", "no form", "6:"}
	one, two := lie(p, "0:one", 8), lie(p, "0:two", 8)
	mustBuild(t, with(texts, one, two), sp, "t", done("one"), "", "t")
	mustBuild(t, with(texts, two, one), sp, "t", done("two"), "", "t")
	mustBuild(t, with(texts, lie(p, "1:why", 8), one), sp, "t", ended(impl.Failed, "why"), "", "t")
	// Of no action that is the target's in all instructions.
	for _, other := range []impl.Program{program(lit("ran ")), program(lit("ran")), program(op(impl.OpEnd)), program(lit("ran"), op(impl.OpEnd), op(impl.OpEnd)), program(lit("ran"), op(impl.OpFail))} {
		mustBuild(t, with(texts, lie(other, "0:one", 8), two), sp, "t", done("two"), "", "t")
	}
	// No text, or one that is not read.
	for _, form := range []string{"0:not there", "no form", "6:", "1"} {
		mustBuild(t, with(texts, lie(p, form, 8)), sp, "t", done("ran"), "t", "")
		mustBuild(t, with(texts, lie(p, form, 8), two), sp, "t", done("two"), "", "t")
		// It is not tried, so what it looks at is not made.
		mustBuild(t, with(texts, lie(p, form, 8, asked("u", "0:x")), two), sp, "t", done("two"), "", "t")
		mustBuild(t, with(texts, lie(p, form, 8, asked("t", "0:x")), two), sp, "t", done("two"), "", "t")
	}
	// Looks that differ: the first, the last, and what is made up to there.
	s := withRun(with(texts), sp, "u")
	s.Records = append(s.Records, lie(p, "0:one", 8, asked("s", "0:y"), asked("u", "0:x")), two)
	mustBuild(t, s, sp, "t", done("two"), "", "t")
	s.Records[1] = lie(p, "0:one", 8, asked("u", "0:x"), asked("s", "0:y"), asked("v", "0:text"))
	mustBuild(t, s, sp, "t", done("two"), "", "u t")
	s.Records[1] = lie(p, "0:one", 8, asked("u", "0:x"), asked("s", "0:x"), asked("v", "0:text"))
	mustBuild(t, s, sp, "t", done("one"), "v", "u t")
	s.Records[1] = lie(p, "0:one", 8, asked("u", "0:x"), asked("s", "0:x"), asked("v", "1:text"))
	mustBuild(t, s, sp, "t", done("two"), "v", "u t")
	s.Records[1] = lie(p, "0:one", 8, asked("nothing", "4:nothing"), hasSaid("nothing", "0"), hasSaid("v", "1"), asked("u", "0:x"), asked("u", "0:x"))
	mustBuild(t, s, sp, "t", done("one"), "", "u t")
	s.Records[1] = lie(p, "0:one", 8, hasSaid("u", "0"), asked("v", "0:text"))
	mustBuild(t, s, sp, "t", done("two"), "", "t")
	s.Records[1] = lie(p, "0:one", 8, hasSaid("u", "0:x"))
	mustBuild(t, s, sp, "t", done("two"), "", "t")
	s.Records[1] = lie(p, "0:one", 8, asked("nothing", ""))
	mustBuild(t, s, sp, "t", done("two"), "", "t")
}

// A text that is put in the midst of one record's trying is there when the next
// one comes to its turn, but it does not bring back one that had its turn.
func TestTextsAtTheMomentOfATurn(t *testing.T) {
	p := program(lit("ran"), op(impl.OpEnd))
	sp := spaceOf(source("s", "x"), impl.Target{Name: "t", Action: p}, impl.Target{Name: "twin", Action: p}, target("v", lit("text"), op(impl.OpEnd)),
		target("both", joining("t", "twin")...))
	s := storeOf(8, "0:one")
	early := lie(p, "0:text", 8)
	differs := lie(p, "0:one", 8, asked("v", "0:other"))
	s.Records = []impl.Record{differs, early}
	mustBuild(t, s, sp, "t", done("text"), "v", "t")
	s.Records = []impl.Record{early, differs}
	mustBuild(t, s, sp, "t", done("ran"), "v t", "")
	mustBuild(t, s, sp, "both", done("rantext"), "v t both", "twin")
	s.Records = []impl.Record{early, differs, early}
	mustBuild(t, s, sp, "t", done("text"), "v", "t")
	mustBuild(t, s, sp, "both", done("texttext"), "v both", "t twin")
	// The next build has the text from the beginning.
	s.Records = []impl.Record{early, differs}
	all := impl.BuildAll(s, sp, []string{"t", "t"})
	if all.Code != impl.Done || all.Text != "text" || !slices.Equal(all.Ran, []string{"v", "t"}) || !slices.Equal(all.Held, []string{"t"}) {
		t.Errorf("%s", tell(all))
	}
}

// A name that is asked for again is as it was made, in a run and in a record.
func TestAskedForAgain(t *testing.T) {
	sp := spaceOf(source("s", "x"), target("low", copying("s")...), target("mid", joining("low", "low")...), target("top", joining("low", "mid", "low", "s", "mid")...))
	s := mustBuild(t, impl.Store{Width: 8}, sp, "top", done("xxxxxxx"), "low mid top", "")
	if len(s.Records) != 3 || len(s.Records[2].Looks) != 5 {
		t.Errorf("%v", s)
	}
	mustBuild(t, s, sp, "top", done("xxxxxxx"), "", "low mid top")
	if stale := impl.Stale(impl.Store{Width: 8}, sp, "top"); !slices.Equal(stale, []string{"low", "mid", "top"}) {
		t.Errorf("%q", stale)
	}
	// Ascending, not in the order of the runs.
	sp = spaceOf(source("s", "x"), target("z", copying("s")...), target("m", joining("z", "s")...), target("a", joining("m", "z")...))
	mustBuild(t, impl.Store{Width: 8}, sp, "a", done("xxx"), "z m a", "")
	if stale := impl.Stale(impl.Store{Width: 8}, sp, "a"); !slices.Equal(stale, []string{"a", "m", "z"}) {
		t.Errorf("%q", stale)
	}
}

// expected tells by Trail and Fits alone which targets are run and held.
type expected struct {
	sp        impl.Space
	width     int
	records   []impl.Record
	met       map[string]bool
	ran, held []string
}

func (e *expected) visit(name string) {
	_, made, _ := thingOf(e.sp, name)
	if made.Name == "" || e.met[name] {
		return
	}
	e.met[name] = true
	trail, r := impl.Trail(e.sp, name)
	fits := false
	for _, record := range e.records {
		n := impl.Fits(record, trail, e.width)
		fits = fits || samePrograms(record.Action, made.Action) && n == len(trail) && n == len(record.Looks)
	}
	for _, seen := range trail {
		if seen.Ask {
			e.visit(seen.Name)
		}
	}
	if fits {
		e.held = append(e.held, name)
		return
	}
	e.ran = append(e.ran, name)
	e.records = append(e.records, impl.Note(made.Action, trail, r, e.width))
}

func TestRanIsWhatNoRecordFits(t *testing.T) {
	d := &dice{111}
	checked, ran, held := 0, 0, 0
	for s, sp := range inWorlds(d, 3000, world.vouched) {
		for _, name := range fewNames {
			b := impl.Build(s, sp, name)
			if b.Code > impl.Below || doubted(s, sp, name) {
				continue
			}
			checked++
			e := &expected{sp: sp, width: s.Width, records: slices.Clone(s.Records), met: map[string]bool{}}
			e.visit(name)
			if !slices.Equal(b.Ran, e.ran) || !slices.Equal(b.Held, e.held) || !slices.EqualFunc(b.Store.Records, e.records, sameRecords) {
				t.Fatalf("%s in %v with %v: %s, not ran %q, held %q", name, sp, s, tell(b), e.ran, e.held)
			}
			stale := slices.Clone(e.ran)
			slices.Sort(stale)
			if !slices.Equal(impl.Stale(s, sp, name), stale) {
				t.Fatalf("%q is not stale", stale)
			}
			ran, held = ran+len(e.ran), held+len(e.held)
		}
	}
	if checked < 10000 || ran < 3000 || held < 3000 {
		t.Errorf("%d checked, %d run, %d held", checked, ran, held)
	}
}

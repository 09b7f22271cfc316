package tests

import (
	"slices"
	"testing"

	"loop.example/kilntrace/impl"
)

// mustTrim asks for the store that is left, and that nothing is changed.
func mustTrim(t *testing.T, s impl.Store, sp impl.Space, names []string, want impl.Store) impl.Store {
	t.Helper()
	given, givenSpace, givenNames := copyStore(s), copySpace(sp), slices.Clone(names)
	got, code := impl.Trim(s, sp, names)
	if code != 0 || !sameStores(got, want) {
		t.Errorf("%q: code %d and %v, not %v", brief(names), code, brief(got), brief(want))
	}
	if !sameStores(s, given) || !sameSpaces(sp, givenSpace) || !slices.Equal(names, givenNames) {
		t.Errorf("%q: an argument was changed", brief(names))
	}
	return got
}

// mustNotTrim asks for a code, and the zero store beside it.
func mustNotTrim(t *testing.T, s impl.Store, sp impl.Space, names []string, want int) {
	t.Helper()
	given := copyStore(s)
	got, code := impl.Trim(s, sp, names)
	if code != want || !sameStores(got, impl.Store{}) {
		t.Errorf("%q: code %d and %v, not code %d", brief(names), code, brief(got), want)
	}
	if built := impl.BuildAll(s, sp, names); built.Code != want {
		t.Errorf("%q: the code of BuildAll is %d", brief(names), built.Code)
	}
	if !sameStores(s, given) {
		t.Errorf("%q: the store was changed", brief(names))
	}
}

// storeWith gives a store of width 8 with texts and records.
func storeWith(texts []string, records ...impl.Record) impl.Store {
	s := storeOf(8, texts...)
	s.Records = records
	return s
}

// runOf gives the record of a target's run.
func runOf(sp impl.Space, name string) impl.Record {
	return withRun(impl.Store{Width: 8}, sp, name).Records[0]
}

func TestWhatTrimKeeps(t *testing.T) {
	sp := spaceOf(source("s", "x"), source("q", "not looked at"), target("low", copying("s")...), target("mid", joining("low", "s")...),
		target("top", joining("mid", "nothing")...), target("fails", lit("why"), op(impl.OpFail)), target("twin", copying("s")...))
	before, _ := impl.PutSource(sp, "s", "y")
	all := impl.BuildAll(impl.Store{Width: 8}, before, []string{"top", "fails"}).Store
	all = impl.BuildAll(all, sp, []string{"low", "top", "fails"}).Store
	all = mustPut(t, mustPut(t, all, "0:not looked at"), "1")
	if len(all.Records) != 7 {
		t.Fatalf("%d records", len(all.Records))
	}
	low, mid, top, fails := runOf(sp, "low"), runOf(sp, "mid"), runOf(sp, "top"), runOf(sp, "fails")
	lowTexts := []string{"0:x"}
	midTexts := []string{"0:x", "0:xx"}
	topTexts := []string{"0:x", "0:xx", "4:nothing"}
	none := impl.Store{Width: 8}
	// No names, and names that are no targets, need nothing.
	for _, names := range [][]string{nil, {}, {"s"}, {"nothing"}, {"q", "s", "nothing"}} {
		mustTrim(t, all, sp, names, none)
		mustTrim(t, none, sp, names, none)
	}
	mustTrim(t, all, sp, []string{"low"}, storeWith(lowTexts, low))
	mustTrim(t, all, sp, []string{"twin"}, storeWith(lowTexts, low))
	mustTrim(t, all, sp, []string{"mid"}, storeWith(midTexts, low, mid))
	// The end of a build is no code of Trim as long as it is one of a run.
	mustTrim(t, all, sp, []string{"top"}, storeWith(topTexts, low, mid, top))
	mustTrim(t, all, sp, []string{"fails"}, storeWith([]string{"1:why"}, fails))
	// In the order of the store, whatever the order of the names.
	for _, names := range [][]string{{"fails", "top"}, {"top", "fails", "s", "low", "top"}, {"nothing", "low", "mid", "twin", "fails", "top"}} {
		mustTrim(t, all, sp, names, storeWith(append([]string{"1:why"}, topTexts...), fails, low, mid, top))
	}
	// What is put by the same build stands behind what held in it.
	mustTrim(t, none, sp, []string{"mid"}, storeWith(midTexts, low, mid))
	mustTrim(t, withRun(none, sp, "low"), sp, []string{"mid"}, storeWith(midTexts, low, mid))
	mustTrim(t, withRun(none, sp, "mid"), sp, []string{"mid"}, storeWith(midTexts, mid, low))
	mustTrim(t, withRun(none, sp, "mid"), sp, []string{"low"}, storeWith(lowTexts, low))
	mustTrim(t, withRun(none, before, "low"), sp, []string{"mid", "fails", "low"}, storeWith(append([]string{"1:why"}, midTexts...), low, mid, fails))
	// Put for one name, held for the next.
	mustTrim(t, none, sp, []string{"low", "twin", "low"}, storeWith(lowTexts, low))
}

// Each code above 5 of BuildAll is that of Trim, with the zero store.
func TestTrimCodes(t *testing.T) {
	sp := spaceOf(source("s", "x"), target("low", copying("s")...), target("loop", copying("loop")...), target("out", lit("out"), op(impl.OpEnd)))
	s := withRun(impl.Store{Width: 8}, sp, "low")
	for _, names := range [][]string{{"loop"}, {"low", "loop"}, {"loop", "low"}, {"s", "loop", ""}} {
		mustNotTrim(t, s, sp, names, impl.Circle)
	}
	deep := ladder(impl.MaxDepth+1, copying("s")...)
	for _, names := range [][]string{{rung(0)}, {rung(1), rung(0)}, {rung(0), rung(1)}} {
		mustNotTrim(t, s, deep, names, impl.Deep)
	}
	for _, names := range [][]string{{""}, {"a b"}, {"low", "\x7f"}, {long(impl.MaxName + 1), "low"}, slices.Repeat([]string{"low"}, impl.MaxThings+1)} {
		mustNotTrim(t, s, sp, names, impl.NotValid)
	}
	mustTrim(t, s, sp, slices.Repeat([]string{"low"}, impl.MaxThings), s)
	one, other := twoForms(t, 2)
	clash := spaceOf(source("s", one[2:]), target("low", copying("s")...), target("low2", lit(other[2:]), op(impl.OpEnd)))
	for _, names := range [][]string{{"low", "low2"}, {"low2", "low"}} {
		mustNotTrim(t, impl.Store{Width: 2}, clash, names, impl.Clashed)
	}
	mustNotTrim(t, storeOf(2, other), clash, []string{"low"}, impl.Clashed)
	mustNotTrim(t, fullStore(t, impl.MaxBlobs), sp, []string{"low"}, impl.Full)
	mustNotTrim(t, impl.Store{Width: 8, Records: recordsOf(impl.MaxRecs, 8)}, sp, []string{"s", "low"}, impl.Full)
	// What is thrown away makes no room for what is put.
	full := impl.Store{Width: 8, Records: recordsOf(impl.MaxRecs-1, 8)}
	mustNotTrim(t, full, sp, []string{"low", "out"}, impl.Full)
	mustTrim(t, full, sp, []string{"low"}, s)
	mustTrim(t, fullStore(t, impl.MaxBlobs-1), sp, []string{"low"}, withRun(impl.Store{Width: 2}, sp, "low"))
}

func TestWhatTrimRefuses(t *testing.T) {
	sp := spaceOf(source("s", "x"), target("t", copying("s")...))
	for what, s := range wrongStores() {
		for _, names := range [][]string{nil, {"s"}, {"t"}, {"nothing"}, {""}} {
			if got, code := impl.Trim(s, sp, names); code != impl.NotValid || !sameStores(got, impl.Store{}) {
				t.Errorf("%s: code %d and %s", what, code, brief(got))
			}
		}
	}
	s := withRun(impl.Store{Width: 8}, sp, "t")
	for faults := 1; faults < 1<<7; faults++ {
		for _, names := range [][]string{nil, {"c"}, {"b", "nothing"}} {
			mustNotTrim(t, s, faultySpace(faults), names, impl.NotValid)
		}
	}
	mustNotTrim(t, impl.Store{}, impl.Space{}, nil, impl.NotValid)
	mustTrim(t, s, impl.Space{}, nil, impl.Store{Width: 8})
}

// Of two equal records that one stays which held, at its own place.
func TestTrimOfEqualRecords(t *testing.T) {
	sp := spaceOf(source("s", "x"), target("low", copying("s")...), target("up", joining("s")...), target("twin", copying("s")...))
	low, up := runOf(sp, "low"), runOf(sp, "up")
	texts := []string{"0:x"}
	both := []string{"up", "low"}
	mustTrim(t, storeWith(texts, low, low), sp, []string{"low"}, storeWith(texts, low))
	mustTrim(t, storeWith(texts, low, low), sp, []string{"low", "twin"}, storeWith(texts, low))
	mustTrim(t, storeWith(texts, low, up, low, up), sp, both, storeWith(texts, low, up))
	mustTrim(t, storeWith(texts, up, low, low), sp, both, storeWith(texts, up, low))
	// The first of two had no text when its turn came, so the second one held.
	p := program(lit("ran"), op(impl.OpEnd))
	sp = spaceOf(source("s", "x"), impl.Target{Name: "t", Action: p}, target("v", lit("text"), op(impl.OpEnd)), target("low", copying("s")...))
	early, differs := lie(p, "0:text", 8), lie(p, "0:one", 8, asked("v", "0:other"))
	s := storeWith([]string{"0:one", "0:x"}, early, differs, low, early)
	mustBuildAll(t, s, sp, []string{"low", "t"}, impl.Built{Text: "text", Store: withRun(s, sp, "v"), Ran: []string{"v"}, Held: []string{"low", "t"}})
	mustTrim(t, s, sp, []string{"low", "t"}, storeWith([]string{"0:text", "0:x"}, low, early, runOf(sp, "v")))
	// And in the next build the first one does.
	mustTrim(t, s, sp, []string{"low", "t", "t"}, storeWith([]string{"0:text", "0:x"}, early, low, early, runOf(sp, "v")))
}

// Records of the same action that did not hold are gone, and what they needed.
func TestTrimOfOtherRecords(t *testing.T) {
	p := program(copying("s")...)
	sp := spaceOf(source("s", "x"), impl.Target{Name: "t", Action: p}, target("u", joining("t")...))
	holds := runOf(sp, "t")
	texts := []string{"0:x", "0:y", "0:lie", "1:", "no form"}
	others := []impl.Record{
		lie(p, "0:y", 8, asked("s", "0:y")),                     // another look
		lie(p, "0:not there", 8, asked("s", "0:x")),             // no text
		lie(p, "no form", 8, asked("s", "0:x")),                 // no form
		lie(p, "0:lie", 8, asked("s", "0:x"), asked("s", "1:")), // differs at its end
		lie(program(lit("x"), op(impl.OpEnd)), "0:x", 8),        // another action
	}
	for _, other := range others {
		mustTrim(t, storeWith(texts, other, holds), sp, []string{"t"}, storeWith([]string{"0:x"}, holds))
		mustTrim(t, storeWith(texts, holds, other), sp, []string{"t"}, storeWith([]string{"0:x"}, holds))
	}
	mustTrim(t, storeWith(texts, append(slices.Clone(others), holds, others[3], holds)...), sp, []string{"u"}, storeWith([]string{"0:x"}, holds, runOf(sp, "u")))
	// What was made while a record was tried that did not hold is kept: it was run.
	tried := lie(program(copying("s")...), "0:x", 8, asked("u", "0:other"))
	sp = spaceOf(source("s", "x"), impl.Target{Name: "t", Action: p}, target("u", lit("made"), op(impl.OpEnd)))
	mustTrim(t, storeWith(texts, tried, holds), sp, []string{"t"}, storeWith([]string{"0:x", "0:made"}, holds, runOf(sp, "u")))
}

// Which texts a record needs: those of its Out and of its Asks, by their sums.
func TestTextsThatTrimKeeps(t *testing.T) {
	sp := spaceOf(source("s", "x"), target("low", lit("s"), op(impl.OpAsk), op(impl.OpDrop), lit("low"), op(impl.OpEnd)), target("up", copying("low")...),
		target("has", lit("s"), op(impl.OpHas), op(impl.OpDrop), lit("had"), op(impl.OpEnd)), target("sees", joining("has")...))
	low, up, has := runOf(sp, "low"), runOf(sp, "up"), runOf(sp, "has")
	texts := []string{"0:x", "0:low", "0:had", "0:other", "1", "0", "", "1:low"}
	// The Out of one is asked for by another.
	mustTrim(t, storeWith(texts, low, up), sp, []string{"up"}, storeWith([]string{"0:x", "0:low"}, low, up))
	mustTrim(t, storeWith(texts, low, up), sp, []string{"low"}, storeWith([]string{"0:x", "0:low"}, low))
	// A look that is no Ask needs no text, though there is one with its sum.
	mustTrim(t, storeWith(texts, has), sp, []string{"has"}, storeWith([]string{"0:had"}, has))
	looked := lie(has.Action, "0:had", 8, hasSaid("s", "1"), hasSaid("nothing", "0"))
	mustTrim(t, storeWith(texts, looked), sp, []string{"has"}, storeWith([]string{"0:had"}, looked))
	for width := 1; width <= 2; width++ {
		// A form that has the sum of 1: it is needed where it is asked for alone.
		form := formWithSumOf(t, "1", width)
		sp, _ := impl.PutSource(sp, "one", form[2:])
		s := storeOf(width, form, "0:had")
		s.Records = []impl.Record{impl.Note(has.Action, []impl.Seen{hasSaid("s", "1")}, done("had"), width)}
		want := storeOf(width, "0:had")
		want.Records = s.Records
		mustTrim(t, s, sp, []string{"has"}, want)
		s.Records = append(s.Records, impl.Note(program(copying("one")...), []impl.Seen{asked("one", form)}, done(form[2:]), width))
		sp, _ = impl.PutTarget(sp, "of.one", program(copying("one")...))
		mustTrim(t, s, sp, []string{"has"}, want)
		mustTrim(t, s, sp, []string{"has", "of.one"}, s)
	}
	// The text of an Ask need not be there for a record to hold.
	sparse := storeWith([]string{"0:low", "0:other"}, low)
	mustTrim(t, sparse, sp, []string{"low"}, storeWith([]string{"0:low"}, low))
	// It is the sum that counts: another text with it is kept.
	one, other := twoForms(t, 2)
	clash := spaceOf(source("s", other[2:]), target("t", lit("s"), op(impl.OpAsk), op(impl.OpDrop), lit("t"), op(impl.OpEnd)))
	s := storeOf(2, one, "0:t", "0:unlooked")
	s.Records = []impl.Record{impl.Note(clash.Targets[0].Action, []impl.Seen{asked("s", one)}, done("t"), 2)}
	want := storeOf(2, one, "0:t")
	want.Records = s.Records
	mustTrim(t, s, clash, []string{"t"}, want)
}

// trimSlowly is Trim for what is valid, by the slow build.
func trimSlowly(s impl.Store, sp impl.Space, names []string) (impl.Store, int) {
	at := s
	var used []int
	for _, name := range names {
		built, places := slowlyUsed(at, sp, name)
		if !isName(name) {
			return impl.Store{}, impl.NotValid
		}
		if built.Code > impl.Below {
			return impl.Store{}, built.Code
		}
		used = append(used, places...)
		at = built.Store
	}
	out := impl.Store{Width: s.Width}
	for i, r := range at.Records {
		if slices.Contains(used, i) {
			out.Records = append(out.Records, r)
		}
	}
	for _, text := range at.Texts {
		sum := impl.Sum(text, s.Width)
		if slices.ContainsFunc(out.Records, func(r impl.Record) bool {
			return r.Out == sum || slices.ContainsFunc(r.Looks, func(glance impl.Glance) bool { return glance.Ask && glance.Sum == sum })
		}) {
			out.Texts = append(out.Texts, text)
		}
	}
	return out, 0
}

func someNames(d *dice) []string {
	var out []string
	for range d.below(4) {
		out = append(out, d.pick(fewNames...))
	}
	if d.below(20) == 0 {
		out = append(out, "")
	}
	return out
}

func TestTrimAsTold(t *testing.T) {
	d := &dice{151}
	codes := map[int]int{}
	less, kept := 0, 0
	for s, sp := range inWorlds(d, 4000, world.mixed) {
		for range 2 {
			names := someNames(d)
			want, code := trimSlowly(s, sp, names)
			if code != 0 {
				mustNotTrim(t, s, sp, names, code)
			} else {
				mustTrim(t, s, sp, names, want)
			}
			if t.Failed() {
				t.Fatalf("%q in %v with %v", names, sp, s)
			}
			codes[code]++
			if len(want.Records) > 0 {
				kept++
			}
			if code == 0 && len(want.Texts) > 0 && len(want.Texts) < len(s.Texts) {
				less++
			}
		}
	}
	for _, code := range []int{0, impl.Circle, impl.NotValid, impl.Clashed} {
		if codes[code] < 20 {
			t.Errorf("only %d have code %d", codes[code], code)
		}
	}
	if kept < 1000 || less < 500 {
		t.Errorf("%d keep records, %d of them less texts", kept, less)
	}
}

// What is left is vouched for, and with it nothing is run.
func TestTrimmedIsEnough(t *testing.T) {
	d := &dice{152}
	checked, doubts, kept := 0, 0, 0
	for s, sp := range inWorlds(d, 5000, world.vouched) {
		names := someNames(d)
		got, code := impl.Trim(s, sp, names)
		if code != 0 {
			continue
		}
		if !impl.ValidStore(got) || !allVouched(got) {
			t.Fatalf("%q in %v with %v: %v", names, sp, s, got)
		}
		if slices.ContainsFunc(names, func(name string) bool { return doubted(s, sp, name) || doubted(got, sp, name) }) {
			doubts++
			continue
		}
		checked++
		before, after := impl.BuildAll(s, sp, names), impl.BuildAll(got, sp, names)
		if !sameResults(resultOf(before), resultOf(after)) || len(after.Ran) > 0 || len(after.Held) != len(before.Ran)+len(before.Held) || !sameStores(after.Store, got) {
			t.Fatalf("%q in %v with %v: %s and then %s", names, sp, s, tell(before), tell(after))
		}
		for _, name := range names {
			if one, other := impl.Build(s, sp, name), impl.Build(got, sp, name); !sameResults(resultOf(one), resultOf(other)) || len(other.Ran) > 0 {
				t.Fatalf("%s of %q in %v with %v: %s and then %s", name, names, sp, s, tell(one), tell(other))
			}
		}
		if again, code := impl.Trim(got, sp, names); code != 0 || !sameStores(again, got) {
			t.Fatalf("%q in %v with %v: trimmed again: %v", names, sp, s, again)
		}
		if len(got.Records) > 0 && len(got.Records) < len(s.Records) {
			kept++
		}
	}
	if checked < 2000 || doubts < 50 || kept < 500 {
		t.Errorf("%d checked, %d in doubt, %d keep some of the records", checked, doubts, kept)
	}
}

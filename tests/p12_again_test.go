package tests

import (
	"slices"
	"testing"

	"loop.example/kilntrace/impl"
)

// hasAllOf says whether a store has all texts and records of another, the
// records at its beginning.
func hasAllOf(s, before impl.Store) bool {
	for _, text := range before.Texts {
		if got, there := impl.GetText(s, impl.Sum(text, s.Width)); !there || got != text {
			return false
		}
	}
	n := len(before.Records)
	return s.Width == before.Width && len(s.Records) >= n && slices.EqualFunc(s.Records[:n], before.Records, sameRecords)
}

// What a build leaves is valid and vouched for, also where there is doubt, and
// with it nothing is left to be run.
func TestBuildAgain(t *testing.T) {
	d := &dice{121}
	checked, doubts, again := 0, 0, 0
	for s, sp := range inWorlds(d, 3000, world.vouched) {
		for _, name := range fewNames {
			b := impl.Build(s, sp, name)
			if b.Code > impl.Below {
				continue
			}
			checked++
			if !impl.ValidStore(b.Store) || !allVouched(b.Store) || !hasAllOf(b.Store, s) {
				t.Fatalf("%s in %v with %v: %v", name, sp, s, b.Store)
			}
			if len(b.Store.Records) != len(s.Records)+len(b.Ran) {
				t.Fatalf("%d records behind %d, %q were run", len(b.Store.Records), len(s.Records), b.Ran)
			}
			if doubted(s, sp, name) || doubted(b.Store, sp, name) {
				doubts++
				continue
			}
			next := impl.Build(b.Store, sp, name)
			if !sameResults(resultOf(next), resultOf(b)) || len(next.Ran) > 0 || !sameStores(next.Store, b.Store) || len(next.Held) != len(b.Ran)+len(b.Held) {
				t.Fatalf("%s in %v with %v: %s and then %s", name, sp, s, tell(b), tell(next))
			}
			if len(next.Held) > 0 {
				again++
			}
		}
	}
	if checked < 10000 || doubts < 100 || again < 3000 {
		t.Errorf("%d checked, %d in doubt, %d held again", checked, doubts, again)
	}
}

// The texts of a build are those of its looks and ends, and nothing else is put.
func TestWhatIsPut(t *testing.T) {
	sp := spaceOf(source("s", "x"), source("q", "not looked at"), target("t", joining("s", "u")...), target("u", lit("q"), op(impl.OpHas), op(impl.OpEnd)),
		target("v", joining("nothing")...), target("w", joining("t", "v", "q")...))
	s := impl.Store{Width: 8}
	for name, texts := range map[string][]string{
		"s": nil, "nothing": nil, "u": {"0:1"}, "t": {"0:x", "0:1", "0:x1"}, "v": {"4:nothing"},
		"w": {"0:x", "0:1", "0:x1", "4:nothing", "5:v"},
	} {
		b := impl.Build(s, sp, name)
		if !slices.Equal(b.Store.Texts, bySums(8, texts)) {
			t.Errorf("%s: %q, not %q", name, b.Store.Texts, texts)
		}
	}
	// The records are put as the runs end.
	b := impl.Build(s, sp, "w")
	if !slices.Equal(b.Ran, []string{"u", "t", "v", "w"}) || len(b.Store.Records) != 4 {
		t.Fatalf("%s", tell(b))
	}
	for i, name := range b.Ran {
		_, made, _ := thingOf(sp, name)
		looks, r := impl.Trail(sp, name)
		if !sameRecords(b.Store.Records[i], impl.Note(made.Action, looks, r, 8)) {
			t.Errorf("record %d is %v", i, b.Store.Records[i])
		}
	}
}

// What a record that lies has told is kept as it was told.
func TestWhatIsPutBehindALie(t *testing.T) {
	p := program(copying("s")...)
	sp := spaceOf(source("s", "x"), impl.Target{Name: "t", Action: p}, target("u", copying("t")...))
	s := storeOf(8, "0:lie", "4:t", "1:lie")
	for form, want := range map[string]impl.Result{"0:lie": done("lie"), "1:lie": ended(impl.Below, "t"), "4:t": ended(impl.Below, "t")} {
		s.Records = []impl.Record{lie(p, form, 8, asked("s", "0:x"))}
		after := mustBuild(t, s, sp, "u", want, "u", "t")
		if !sameRecords(after.Records[1], impl.Note(program(copying("t")...), []impl.Seen{asked("t", form)}, want, 8)) {
			t.Errorf("%v", after.Records[1])
		}
		if _, there := impl.GetText(after, impl.Sum("0:x", 8)); there {
			t.Error("the text of a look that was not made by a run was put")
		}
	}
}

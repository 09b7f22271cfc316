package tests

import (
	"slices"
	"testing"

	"loop.example/kilntrace/impl"
)

// What is kept, merged and read is new memory, and nothing is written into an
// argument or behind it.
func TestKeepingSharesNothing(t *testing.T) {
	sp := spaceOf(source("s", "x"), target("one", copying("s")...), target("two", joining("one", "s")...), target("new", joining("two", "s")...))
	a := withRun(withRun(impl.Store{Width: 8}, sp, "one"), sp, "two")
	b := withRun(withRun(impl.Store{Width: 8}, sp, "two"), sp, "new")
	b.Records = append(b.Records, copyRecord(b.Records[1]), bent(func(*impl.Record) {}))
	a.Texts, a.Records = slices.Grow(a.Texts, 9), slices.Grow(a.Records, 9) // room in which nothing may be put
	b.Texts, b.Records = slices.Grow(b.Texts, 9), slices.Grow(b.Records, 9)
	names := []string{"two", "new"}
	givenA, givenB, givenSpace := copyStore(a), copyStore(b), copySpace(sp)
	trim := func(s impl.Store, names ...string) func() impl.Store {
		return func() impl.Store {
			out, code := impl.Trim(s, sp, names)
			if code != 0 {
				t.Fatal(code)
			}
			return out
		}
	}
	merge := func(a, b impl.Store) func() impl.Store {
		return func() impl.Store { return impl.Merge(a, b).Store }
	}
	form := impl.PrintStore(b)
	answers := map[string]func() impl.Store{
		"what held and what was put": trim(a, names...), "what held": trim(a, "one"), "no names": trim(a), "what was put": trim(impl.Store{Width: 8}, names...),
		"a and b": merge(a, b), "b and a": merge(b, a), "a and a": merge(a, a), "a and nothing": merge(a, impl.Store{Width: 8}), "nothing and b": merge(impl.Store{Width: 8}, b),
		"vouched": func() impl.Store { return impl.Vouched(b) },
		"read":    func() impl.Store { s, _ := impl.ParseStore(form); return s },
	}
	kept := map[string]impl.Store{}
	for what, answer := range answers {
		one, two := answer(), answer()
		want := copyStore(one)
		if what != "no names" && len(one.Records) == 0 {
			t.Errorf("%s: no records", what)
		}
		mustBeApart(t, what, one)
		spoilStore(one)
		if !sameStores(two, want) || !sameStores(a, givenA) || !sameStores(b, givenB) || !sameSpaces(sp, givenSpace) || !slices.Equal(names, []string{"two", "new"}) {
			t.Fatalf("%s: the answer shares memory with an argument or another answer", what)
		}
		for _, s := range []impl.Store{a, b} {
			if s.Texts[:cap(s.Texts)][len(s.Texts)] != "" || s.Records[:cap(s.Records)][len(s.Records)].Out != "" {
				t.Errorf("%s: something was put behind an argument", what)
			}
		}
		kept[what] = two
	}
	wants := map[string]impl.Store{}
	for what, s := range kept {
		wants[what] = copyStore(s)
	}
	spoilStore(a)
	spoilStore(b)
	spoilSpace(sp)
	for what, s := range kept {
		if !sameStores(s, wants[what]) {
			t.Errorf("%s: the answer shares memory with an argument", what)
		}
	}
}

// Stores with as much as they may have: each function answers in good time.
func TestKeepingMuch(t *testing.T) {
	code := several(impl.MaxIns-3, lit(long(impl.MaxText)))
	most := func(i int) impl.Record {
		r := impl.Record{Action: chain(code, []impl.Ins{lit(numberedText(i))}, copying("s")[1:]), Out: impl.Sum(numberedText(i), 8)}
		r.Looks = slices.Repeat([]impl.Glance{askedSum("s", impl.Sum(numberedText(i), 8))}, impl.MaxLooks)
		return r
	}
	a, b := storeOf(8, numbered(impl.MaxBlobs)...), storeOf(8, numbered(impl.MaxBlobs)...)
	for i := range impl.MaxRecs {
		a.Records = append(a.Records, most(i/2))
		b.Records = append(b.Records, most(impl.MaxRecs/2-1-i/2))
	}
	mustMerge(t, a, b, impl.Kept{Store: a})
	if got := impl.Vouched(a); !slices.Equal(got.Texts, a.Texts) || len(got.Records) != 0 {
		t.Errorf("%d texts and %d records", len(got.Texts), len(got.Records))
	}
	sp := spaceOf(source("s", "x"), target("t", copying("s")...))
	mustNotTrim(t, a, sp, []string{"t"}, impl.Full)
	mustTrim(t, a, sp, []string{"s"}, impl.Store{Width: 8})
	if form := impl.PrintStore(a); form != "" {
		t.Errorf("%d bytes", len(form))
	}
}

// A life: built here and there, written, read, merged, trimmed; and at its end
// what is delivered is what a build from nothing gives, or there is doubt.
func TestKeptFromEndToEnd(t *testing.T) {
	d := &dice{164}
	delivered, doubts, ran, held := 0, 0, 0, 0
	all := worlds(d)
	for round := range 400 {
		w := all[round%len(all)]
		sp := w.space()
		s, aside := impl.Store{Width: w.width}, impl.Store{Width: w.width}
		for range 15 {
			names := someNames(d)
			switch d.below(7) {
			case 0:
				if kept, code := impl.Trim(s, sp, names); code == 0 {
					s = kept
				}
			case 1:
				if kept := impl.Merge(s, aside); kept.Code == 0 {
					s = kept.Store
				}
			case 2:
				aside = impl.Vouched(s)
			case 3:
				read, ok := impl.ParseStore(impl.PrintStore(s))
				if !ok {
					t.Fatalf("not read: %v", s)
				}
				s = read
			default:
				sp = w.variant(sp)
			}
			name := fewNames[d.below(len(fewNames))]
			b := impl.Build(s, sp, name)
			if b.Code > impl.Deep || doubted(s, sp, name) {
				doubts++
				continue
			}
			delivered++
			ran, held = ran+len(b.Ran), held+len(b.Held)
			if !sameResults(resultOf(b), impl.Clean(sp, name)) || !allVouched(b.Store) {
				t.Fatalf("%s in %v with %v: %s", name, sp, s, tell(b))
			}
			s = b.Store
		}
	}
	if delivered < 3000 || doubts < 100 || ran < 1000 || held < 1000 {
		t.Errorf("%d delivered, %d in doubt, %d run, %d held", delivered, doubts, ran, held)
	}
}

package tests

import (
	"slices"
	"strconv"
	"testing"

	"loop.example/kilntrace/impl"
)

func mustBuildAll(t *testing.T, s impl.Store, sp impl.Space, names []string, want impl.Built) {
	t.Helper()
	given, givenSpace, givenNames := copyStore(s), copySpace(sp), slices.Clone(names)
	if got := impl.BuildAll(s, sp, names); !sameBuilt(got, want) {
		t.Errorf("%q: %s, not %s", brief(names), tell(got), tell(want))
	}
	if !sameStores(s, given) || !sameSpaces(sp, givenSpace) || !slices.Equal(names, givenNames) {
		t.Errorf("%q: an argument was changed", brief(names))
	}
}

// oneByOne is BuildAll for what is valid, told by Build.
func oneByOne(s impl.Store, sp impl.Space, names []string) impl.Built {
	out := impl.Built{Store: s}
	for _, name := range names {
		b := impl.Build(out.Store, sp, name)
		if b.Code > impl.Below {
			b.Store = s
			return b
		}
		b.Ran, b.Held = append(out.Ran, b.Ran...), append(out.Held, b.Held...)
		out = b
	}
	return out
}

func TestBuildAll(t *testing.T) {
	sp := spaceOf(source("s", "x"), target("low", copying("s")...), target("mid", joining("low", "s")...), target("fails", lit("why"), op(impl.OpFail)),
		target("loop", copying("loop")...))
	s := withRun(impl.Store{Width: 8}, sp, "low")
	after := withRun(s, sp, "mid")
	mustBuildAll(t, s, sp, nil, impl.Built{Store: s})
	mustBuildAll(t, s, sp, []string{}, impl.Built{Store: s})
	mustBuildAll(t, s, sp, []string{"s"}, impl.Built{Text: "x", Store: s})
	mustBuildAll(t, s, sp, []string{"mid"}, impl.Built{Text: "xx", Store: after, Ran: []string{"mid"}, Held: []string{"low"}})
	mustBuildAll(t, s, sp, []string{"mid", "low", "mid", "nothing"},
		impl.Built{Code: impl.Missing, Text: "nothing", Store: after, Ran: []string{"mid"}, Held: []string{"low", "low", "low", "mid"}})
	mustBuildAll(t, s, sp, []string{"fails", "low"}, impl.Built{Text: "x", Store: withRun(s, sp, "fails"), Ran: []string{"fails"}, Held: []string{"low"}})
	mustBuildAll(t, s, sp, []string{"low", "fails"}, impl.Built{Code: impl.Failed, Text: "why", Store: withRun(s, sp, "fails"), Ran: []string{"fails"}, Held: []string{"low"}})
	// The first code above 5 ends it, and nothing is kept.
	mustBuildAll(t, s, sp, []string{"mid", "loop", "low"}, builtOf(circle("loop"), s))
	mustBuildAll(t, s, sp, []string{"mid", "loop", "a b"}, builtOf(circle("loop"), s))
	mustBuildAll(t, s, sp, []string{"mid", "a b", "loop"}, impl.Built{Code: impl.NotValid, Store: s})
	mustBuildAll(t, s, sp, []string{"mid", ""}, impl.Built{Code: impl.NotValid, Store: s})
	deep := ladder(impl.MaxDepth+1, copying("s")...)
	mustBuildAll(t, s, deep, []string{rung(2), rung(0), rung(1)}, builtOf(ended(impl.Deep, rung(impl.MaxDepth)), s))
	// What one build has put may clash with what a later one puts.
	one, other := twoForms(t, 2)
	sp = spaceOf(target("a", lit(one[2:]), op(impl.OpEnd)), target("b", lit(other[2:]), op(impl.OpEnd)), target("c", lit(one[2:]), op(impl.OpFail)))
	s = impl.Store{Width: 2}
	mustBuildAll(t, s, sp, []string{"c", "a", "b"}, impl.Built{Code: impl.Clashed, A: one, B: other, Store: s})
	mustBuildAll(t, s, sp, []string{"b", "c", "a", ""}, impl.Built{Code: impl.Clashed, A: other, B: one, Store: s})
}

func TestManyNames(t *testing.T) {
	sp := spaceOf(source("s", "x"))
	var all, held []string
	for i := range impl.MaxThings - 1 {
		sp.Targets = append(sp.Targets, target(rung(i), lit(strconv.Itoa(i)), op(impl.OpEnd)))
		all = append(all, rung(i))
		held = append(held, rung(impl.MaxThings-2-i))
	}
	s := impl.Store{Width: 8}
	b := impl.BuildAll(s, sp, append(slices.Clone(all), "s"))
	if b.Code != impl.Done || b.Text != "x" || !slices.Equal(b.Ran, all) || len(b.Held) != 0 || len(b.Store.Records) != impl.MaxThings-1 || !allVouched(b.Store) {
		t.Fatalf("%s", tell(b))
	}
	mustBuildAll(t, b.Store, sp, append([]string{"s"}, held...), impl.Built{Text: "0", Store: b.Store, Held: held})
	// A name may stand there more than once; names that are none count, too.
	mustBuildAll(t, b.Store, sp, slices.Repeat([]string{"s"}, impl.MaxThings), impl.Built{Text: "x", Store: b.Store})
	for _, name := range []string{"s", "nothing", ""} {
		mustBuildAll(t, b.Store, sp, slices.Repeat([]string{name}, impl.MaxThings+1), impl.Built{Code: impl.NotValid, Store: b.Store})
	}
	mustBuildAll(t, b.Store, sp, append(all, "s", "s"), impl.Built{Code: impl.NotValid, Store: b.Store})
}

func TestBuildAllAsTold(t *testing.T) {
	d := &dice{141}
	ends := map[int]int{}
	for s, sp := range inWorlds(d, 3000, world.lying) {
		var list []string
		for range d.below(5) {
			list = append(list, d.pick(append([]string{""}, fewNames...)...))
		}
		want := oneByOne(s, sp, list)
		mustBuildAll(t, s, sp, list, want)
		if t.Failed() {
			t.Fatalf("in %v with %v", sp, s)
		}
		ends[want.Code]++
	}
	for _, code := range []int{impl.Done, impl.Missing, impl.Below, impl.Circle, impl.NotValid, impl.Clashed} {
		if ends[code] < 20 {
			t.Errorf("only %d end with code %d", ends[code], code)
		}
	}
}

// inOrder builds names one after the other; false if one of them ends above 5
// or there is doubt.
func inOrder(s impl.Store, sp impl.Space, list []string) (map[string]impl.Result, int, bool) {
	results := map[string]impl.Result{}
	ran := 0
	for _, name := range list {
		b := impl.Build(s, sp, name)
		if b.Code > impl.Below || doubted(s, sp, name) {
			return nil, 0, false
		}
		results[name] = resultOf(b)
		ran += len(b.Ran)
		s = b.Store
	}
	return results, ran, true
}

// In any order each name has the same result, and as many actions are run.
func TestAnyOrderOfNames(t *testing.T) {
	d := &dice{142}
	checked, some := 0, 0
	for s, sp := range inWorlds(d, 2000, world.vouched) {
		list := slices.Clone(fewNames[:2+d.below(6)])
		want, ran, ok := inOrder(s, sp, list)
		if !ok {
			continue
		}
		for range 4 {
			i, j := d.below(len(list)), d.below(len(list))
			list[i], list[j] = list[j], list[i]
			got, n, ok := inOrder(s, sp, list)
			if !ok {
				continue
			}
			b := impl.BuildAll(s, sp, list)
			if n != ran || len(b.Ran) != ran {
				t.Fatalf("%q in %v with %v: %d were run, and %d, and in another order %d", list, sp, s, n, len(b.Ran), ran)
			}
			for name := range want {
				if !sameResults(got[name], want[name]) || !sameResults(got[name], impl.Clean(sp, name)) {
					t.Fatalf("%s of %q in %v with %v: %v, not %v", name, list, sp, s, got[name], want[name])
				}
			}
			checked++
			if ran > 1 {
				some++
			}
		}
	}
	if checked < 1500 || some < 500 {
		t.Errorf("%d checked, %d of them ran several actions", checked, some)
	}
}

package tests

import (
	"slices"
	"testing"

	"loop.example/kilntrace/impl"
)

// word gives the code that ends with a word of what lies under a name.
func word(name string, n int) []impl.Ins {
	return []impl.Ins{lit(name), op(impl.OpAsk), opN(impl.OpWord, n), op(impl.OpEnd)}
}

func TestCutOff(t *testing.T) {
	sp := spaceOf(source("a", "x y"), source("b", "u"),
		target("first", word("a", 0)...), target("second", word("a", 1)...),
		target("mid", joining("first", "b")...), target("top", joining("mid", "second")...))
	s := mustBuild(t, impl.Store{Width: 8}, sp, "top", done("xuy"), "first mid second top", "")
	change := func(name, text string) {
		t.Helper()
		changed, code := impl.PutSource(sp, name, text)
		if code != 0 {
			t.Fatal(code)
		}
		sp = changed
	}
	change("a", "x y and more")
	s = mustBuild(t, s, sp, "top", done("xuy"), "first second", "mid top")
	change("a", "x z")
	s = mustBuild(t, s, sp, "top", done("xuz"), "first second top", "mid")
	change("a", "v z")
	s = mustBuild(t, s, sp, "top", done("vuz"), "first mid second top", "")
	change("a", "x y")
	s = mustBuild(t, s, sp, "top", done("xuy"), "", "first mid second top")
	// What was seen of a and of b, but not of both together.
	change("b", "w")
	s = mustBuild(t, s, sp, "top", done("xwy"), "mid top", "first second")
	change("a", "v y")
	s = mustBuild(t, s, sp, "top", done("vwy"), "first mid second top", "")
	// A source becomes a target that gives the same, and the other way round.
	sp, _ = impl.PutTarget(sp, "b", program(lit("w"), op(impl.OpEnd)))
	s = mustBuild(t, s, sp, "top", done("vwy"), "b", "first mid second top")
	sp, _ = impl.PutSource(sp, "first", "v")
	s = mustBuild(t, s, sp, "top", done("vwy"), "", "b mid second top")
	// Failures are results, too.
	sp, _ = impl.PutTarget(sp, "first", program(lit("why"), op(impl.OpFail)))
	s = mustBuild(t, s, sp, "top", ended(impl.Below, "mid"), "first mid top", "")
	sp, _ = impl.PutTarget(sp, "first", program(lit("w"), lit("hy"), op(impl.OpCat), op(impl.OpFail)))
	s = mustBuild(t, s, sp, "top", ended(impl.Below, "mid"), "first", "mid top")
	sp, _ = impl.PutTarget(sp, "first", program(lit("other"), op(impl.OpFail)))
	mustBuild(t, s, sp, "top", ended(impl.Below, "mid"), "first mid", "top")
}

// The looks hang on what was seen: a change behind a branch that was not taken
// runs nothing.
func TestCutOffOfBranches(t *testing.T) {
	sp := spaceOf(source("which", "left"), source("left", "l"), source("right", "r"),
		target("t", lit("which"), op(impl.OpAsk), op(impl.OpAsk), op(impl.OpEnd)))
	s := mustBuild(t, impl.Store{Width: 8}, sp, "t", done("l"), "t", "")
	sp, _ = impl.PutSource(sp, "right", "other")
	s = mustBuild(t, s, sp, "t", done("l"), "", "t")
	sp, _ = impl.PutSource(sp, "which", "right")
	s = mustBuild(t, s, sp, "t", done("other"), "t", "")
	sp, _ = impl.PutSource(sp, "left", "other")
	s = mustBuild(t, s, sp, "t", done("other"), "", "t")
	sp, _ = impl.PutSource(sp, "which", "left")
	s = mustBuild(t, s, sp, "t", done("other"), "t", "")
	sp, _ = impl.PutSource(sp, "left", "l")
	mustBuild(t, s, sp, "t", done("l"), "", "t")
}

// sameTrail says whether each look of a trail is now as it was.
func sameTrail(sp impl.Space, trail []impl.Seen) bool {
	return !slices.ContainsFunc(trail, func(seen impl.Seen) bool {
		_, _, there := thingOf(sp, seen.Name)
		if seen.Ask {
			return impl.FormResult(impl.Clean(sp, seen.Name)) != seen.Said
		}
		return oneOrZero(there) != seen.Said
	})
}

// Behind changes of the space, what stands on what is as it was is not run.
func TestCutOffBehindChanges(t *testing.T) {
	d := &dice{131}
	type last struct {
		action impl.Program
		trail  []impl.Seen
	}
	cut, ran := 0, 0
	all := worlds(d)
	for round := range 600 {
		w := all[round%len(all)]
		sp := w.space()
		s := impl.Store{Width: w.width}
		before := map[string]last{}
		for range 12 {
			name := fewNames[d.below(len(fewNames))]
			b := impl.Build(s, sp, name)
			if b.Code > impl.Below || doubted(s, sp, name) {
				sp = w.variant(sp)
				continue
			}
			for _, made := range append(slices.Clone(b.Ran), b.Held...) {
				_, target, _ := thingOf(sp, made)
				was, met := before[made]
				trail, _ := impl.Trail(sp, made)
				before[made] = last{target.Action, trail}
				if !met || !samePrograms(was.action, target.Action) || !sameTrail(sp, was.trail) {
					continue
				}
				cut++
				if slices.Contains(b.Ran, made) {
					t.Fatalf("%s of %s in %v was run: %s", made, name, sp, tell(b))
				}
			}
			ran += len(b.Ran)
			s = b.Store
			sp = w.variant(sp)
		}
	}
	if cut < 1000 || ran < 1000 {
		t.Errorf("%d were cut off, %d run", cut, ran)
	}
}

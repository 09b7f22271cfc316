package tests

import (
	"slices"
	"testing"

	"loop.example/kilntrace/impl"
)

func asked(name, form string) impl.Seen { return impl.Seen{Name: name, Ask: true, Said: form} }

func hasSaid(name, said string) impl.Seen { return impl.Seen{Name: name, Said: said} }

func mustTrail(t *testing.T, sp impl.Space, name string, want ...impl.Seen) {
	t.Helper()
	got, r := impl.Trail(sp, name)
	if !slices.Equal(got, want) {
		t.Errorf("%s: %s, not %s", name, brief(got), brief(want))
	}
	if clean := impl.Clean(sp, name); !sameResults(r, clean) {
		t.Errorf("%s: the trail ends with %v, clean is %v", name, r, clean)
	}
}

func TestTrailOfEachKind(t *testing.T) {
	sp := spaceOf(source("s", "one"), source("empty", ""), source("name", "s"),
		target("none", lit("x"), op(impl.OpEnd)),
		target("twice", joining("s", "empty", "s")...),
		target("follow", lit("name"), op(impl.OpAsk), op(impl.OpAsk), op(impl.OpEnd)),
		target("inner", joining("s", "twice")...),
		target("fails", lit("why"), op(impl.OpFail)),
		target("below", joining("s", "fails", "empty")...),
		target("below2", copying("below")...),
		target("missing", joining("s", "nothing", "empty")...),
		target("stuck", lit("s"), op(impl.OpAsk), op(impl.OpCat)),
		target("spent", lit("s"), op(impl.OpHas), opN(impl.OpUnless, 0), opN(impl.OpJump, 0)),
		target("has", lit("s"), op(impl.OpHas), lit("has"), op(impl.OpHas), lit("nothing"), op(impl.OpHas), lit("loop"), op(impl.OpHas), op(impl.OpEnd)),
		target("loop", copying("loop")...), target("of.loop", joining("s", "loop")...), target("of.of.loop", joining("s", "of.loop")...),
	)
	one := asked("s", "0:one")
	mustTrail(t, sp, "none")
	mustTrail(t, sp, "twice", one, asked("empty", "0:"), one)
	mustTrail(t, sp, "follow", asked("name", "0:s"), one)
	mustTrail(t, sp, "inner", one, asked("twice", "0:oneone"))
	mustTrail(t, sp, "below", one, asked("fails", "1:why"))
	mustTrail(t, sp, "below2", asked("below", "5:fails"))
	mustTrail(t, sp, "missing", one, asked("nothing", "4:nothing"))
	mustTrail(t, sp, "stuck", one)
	mustTrail(t, sp, "has", hasSaid("s", "1"), hasSaid("has", "1"), hasSaid("nothing", "0"), hasSaid("loop", "1"))
	// Where there is no run of its own, or no result that a run has.
	for _, name := range []string{"s", "nothing", "loop", "of.loop", "of.of.loop", "", "a b", long(impl.MaxName + 1)} {
		mustTrail(t, sp, name)
	}
	if looks, r := impl.Trail(sp, "spent"); r.Code != impl.Spent || len(looks) != impl.MaxLooks {
		t.Errorf("%d looks, code %d", len(looks), r.Code)
	}
	mustTrail(t, ladder(impl.MaxDepth+1, copying("s")...), rung(0))
	mustTrail(t, ladder(impl.MaxDepth, copying("s")...), rung(0), asked(rung(1), "0:given"))
	mustTrail(t, spaceOf(source("s", long(impl.MaxText)), target("t", copying("s")...)), "t", asked("s", "0:"+long(impl.MaxText)))
	for faults := 1; faults < 1<<7; faults++ {
		mustTrail(t, faultySpace(faults), "c")
	}
}

// trailByNext gives the looks that Next asks for, each answered by Clean.
func trailByNext(sp impl.Space, p impl.Program) ([]impl.Seen, impl.Turn) {
	var replies []impl.Reply
	var looks []impl.Seen
	for {
		turn := impl.Next(p, replies)
		if turn.Over {
			return looks, turn
		}
		_, _, there := thingOf(sp, turn.Name)
		if !turn.Ask {
			replies = append(replies, impl.Reply{Has: there})
			looks = append(looks, hasSaid(turn.Name, oneOrZero(there)))
			continue
		}
		r := impl.Clean(sp, turn.Name)
		replies = append(replies, impl.Reply{Has: there, Code: r.Code, Text: r.Text})
		looks = append(looks, asked(turn.Name, impl.FormResult(r)))
	}
}

func TestTrailIsWhatNextAsksFor(t *testing.T) {
	d := &dice{31}
	long, none := 0, 0
	for range 2000 {
		sp := anySpace(d)
		given := copySpace(sp)
		for _, name := range fewNames {
			_, made, _ := thingOf(sp, name)
			clean := impl.Clean(sp, name)
			if made.Name == "" || clean.Code > impl.Below {
				mustTrail(t, sp, name)
				none++
				continue
			}
			looks, turn := trailByNext(sp, made.Action)
			mustTrail(t, sp, name, looks...)
			if turn.Code != clean.Code || turn.Text != clean.Text {
				t.Errorf("%s: the run ends with %v, clean is %v", name, turn, clean)
			}
			if len(looks) > 1 {
				long++
			}
		}
		if !sameSpaces(sp, given) {
			t.Fatal("the space was changed")
		}
		if t.Failed() {
			t.Fatalf("in %v", sp)
		}
	}
	if long < 1000 || none < 1000 {
		t.Errorf("%d trails of several looks, %d without", long, none)
	}
}

// What is handed out is new each time.
func TestTrailKeepsNothing(t *testing.T) {
	sp := spaceOf(source("s", "x"), target("t", joining("s", "s")...))
	looks, _ := impl.Trail(sp, "t")
	looks[0] = impl.Seen{}
	mustTrail(t, sp, "t", asked("s", "0:x"), asked("s", "0:x"))
}

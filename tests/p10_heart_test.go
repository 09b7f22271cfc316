package tests

import (
	"slices"
	"strconv"
	"testing"

	"loop.example/kilntrace/impl"
)

// Build answers as the slow build does, whatever the records of the store say.
func TestBuildAsTold(t *testing.T) {
	d := &dice{101}
	ends := map[int]int{}
	held, ran := 0, 0
	for s, sp := range inWorlds(d, 6000, world.mixed) {
		if !impl.ValidStore(s) {
			t.Fatal("the store of the test is not valid")
		}
		given, givenSpace := copyStore(s), copySpace(sp)
		for range 3 {
			name := fewNames[d.below(len(fewNames))]
			want := slowly(s, sp, name)
			got := impl.Build(s, sp, name)
			if !sameBuilt(got, want) {
				t.Fatalf("%s in %v with %v: %+v, not %+v", name, sp, s, got, want)
			}
			stale := slices.Clone(want.Ran)
			slices.Sort(stale)
			if !slices.Equal(impl.Stale(s, sp, name), stale) {
				t.Fatalf("%s in %v with %v: not %q is stale", name, sp, s, stale)
			}
			ends[want.Code]++
			held, ran = held+len(want.Held), ran+len(want.Ran)
		}
		if !sameStores(s, given) || !sameSpaces(sp, givenSpace) {
			t.Fatal("an argument was changed")
		}
	}
	for _, code := range []int{impl.Done, impl.Failed, impl.Stuck, impl.Spent, impl.Missing, impl.Below, impl.Circle, impl.Clashed} {
		if ends[code] < 20 {
			t.Errorf("only %d builds end with code %d", ends[code], code)
		}
	}
	if held < 1000 || ran < 1000 {
		t.Errorf("%d were held, %d run", held, ran)
	}
}

// The heart: with records of runs a build gives what Clean gives, or a clash is
// shown.
func TestBuildIsClean(t *testing.T) {
	d := &dice{102}
	same, wrong, clashed, held := 0, 0, 0, 0
	for s, sp := range inWorlds(d, 4000, world.vouched) {
		for _, name := range fewNames {
			clean, b := impl.Clean(sp, name), impl.Build(s, sp, name)
			doubt := doubted(s, sp, name)
			switch {
			case b.Code == impl.Clashed:
				clashed++
				if b.A == b.B || impl.Sum(b.A, s.Width) != impl.Sum(b.B, s.Width) || !doubt {
					t.Fatalf("%q and %q, doubt %v", b.A, b.B, doubt)
				}
			case sameResults(resultOf(b), clean):
				same++
				held += len(b.Held)
			case !doubt:
				t.Fatalf("%s in %v with %v: %s, not %v", name, sp, s, tell(b), clean)
			default:
				wrong++
			}
		}
	}
	if same < 10000 || clashed < 100 || wrong < 30 || held < 5000 {
		t.Errorf("%d as Clean, %d clashed, %d wrong and in doubt; %d held", same, clashed, wrong, held)
	}
}

// A record whose look differs only behind its sum is believed, and Doubt shows
// the two texts.
func TestOneSumForTwoTexts(t *testing.T) {
	for width := 1; width <= 2; width++ {
		one, other := twoForms(t, width)
		sp := spaceOf(source("s", one[2:]), target("t", copying("s")...), target("u", copying("t")...))
		s := withRun(withRun(impl.Store{Width: width}, sp, "t"), sp, "u")
		mustBuild(t, s, sp, "u", done(one[2:]), "", "t u")
		mustDoubt(t, s, sp, "u", "", "")
		sp, _ = impl.PutSource(sp, "s", other[2:])
		mustBuild(t, s, sp, "u", done(one[2:]), "", "t u")
		mustDoubt(t, s, sp, "u", one, other)
		mustDoubt(t, s, sp, "t", one, other)
		mustDoubt(t, s, sp, "s", one, other)

		// Where no record is at hand, the clash is met as the texts are put: that
		// of the store is A. The end of the run is the text that is there.
		sp, _ = impl.PutTarget(sp, "t", program(lit("s"), op(impl.OpAsk), op(impl.OpDrop), lit(one[2:]), op(impl.OpEnd)))
		mustEnd(t, s, sp, "t", impl.Built{Code: impl.Clashed, A: one, B: other})
		mustEnd(t, s, sp, "u", impl.Built{Code: impl.Clashed, A: one, B: other})
		mustDoubt(t, s, sp, "t", one, other)
		// Both are put by one run: the look first.
		s = impl.Store{Width: width}
		mustEnd(t, s, sp, "t", impl.Built{Code: impl.Clashed, A: other, B: one})
		// The order in which they are first asked for is not that in which they are put.
		mustDoubt(t, s, sp, "t", one, other)
	}
}

// twoForms gives two forms of results that are done, with one sum.
func twoForms(t *testing.T, width int) (string, string) {
	met := map[string]string{}
	for i := range 100000 {
		form := "0:" + strconv.Itoa(i)
		if other, there := met[impl.Sum(form, width)]; there {
			return other, form
		}
		met[impl.Sum(form, width)] = form
	}
	t.Fatal("no two forms with one sum")
	return "", ""
}

// formWithSumOf gives the form of a result that is done, with the sum of a text.
func formWithSumOf(t *testing.T, text string, width int) string {
	for i := range 10000000 {
		if form := "0:" + strconv.Itoa(i); form != text && impl.Sum(form, width) == impl.Sum(text, width) {
			return form
		}
	}
	t.Fatal("no form has the sum of " + text)
	return ""
}

func TestDoubtOfOneAndZero(t *testing.T) {
	for width := 1; width <= 2; width++ {
		one, zero := formWithSumOf(t, "1", width), formWithSumOf(t, "0", width)
		sp := spaceOf(source("one", one[2:]), source("zero", zero[2:]), source("other", "x"),
			target("both", joining("other", "zero", "one")...), target("back", joining("one", "zero")...))
		s := impl.Store{Width: width}
		mustDoubt(t, s, sp, "other", "", "")
		mustDoubt(t, s, sp, "one", "1", one)
		mustDoubt(t, s, sp, "zero", "0", zero)
		// The later one of a pair is as early as can be.
		mustDoubt(t, s, sp, "both", "0", zero)
		mustDoubt(t, s, sp, "back", "1", one)
		mustDoubt(t, storeOf(width, one), sp, "other", one, "1")
		mustDoubt(t, storeOf(width, zero), sp, "other", zero, "0")
		mustDoubt(t, storeOf(width, zero, one), sp, "zero", one, "1")
		mustDoubt(t, storeOf(width, "1", "0"), sp, "other", "", "")
		mustDoubt(t, storeOf(width, "1", "0"), sp, "zero", "0", zero)
		// A look of a record that was an ask can't be taken for one that was none.
		r := impl.Record{Action: program(lit("one"), op(impl.OpHas), op(impl.OpEnd)), Looks: []impl.Glance{hasSum("one", impl.Sum(one, width))}, Out: impl.Sum("0:1", width)}
		held := storeOf(width, "0:1")
		held.Records = []impl.Record{r}
		sp, _ = impl.PutTarget(sp, "has", r.Action)
		mustBuild(t, held, sp, "has", done("1"), "", "has")
	}
}

// What the list has of Clean: each name that is asked for, also what is given
// and what is not there, but nothing that is only half made, or is only had.
func TestWhatDoubtMakes(t *testing.T) {
	first, second := twoForms(t, 1)
	a, b := first[2:], second[2:]
	sp := spaceOf(source("a", a), source("b", b), source("x", "other"),
		target("of.a", copying("a")...), target("of.b", copying("b")...), target("lit.b", lit(b), op(impl.OpEnd)),
		target("both", joining("b", "a")...), target("makes", lit("of.b"), op(impl.OpAsk), op(impl.OpDrop), lit("x"), op(impl.OpAsk), op(impl.OpEnd)),
		target("has", lit("a"), op(impl.OpHas), lit("b"), op(impl.OpHas), op(impl.OpCat), op(impl.OpEnd)),
		target("circle", joining("b", "of.a", "circle")...), target("of.circle", joining("x", "circle")...),
		target("half", joining("a", "loop")...), target("loop", copying("half")...),
		target("fails", lit(b), op(impl.OpFail)))
	s := impl.Store{Width: 1}
	for name, want := range map[string][2]string{
		"a": {}, "b": {}, "of.a": {}, "of.b": {}, "lit.b": {}, "has": {}, "x": {}, "nothing": {},
		"both": {second, first}, "circle": {second, first}, "of.circle": {second, first}, "half": {}, "loop": {},
	} {
		mustDoubt(t, s, sp, name, want[0], want[1])
	}
	with := storeOf(1, first)
	for name, want := range map[string]string{"a": "", "b": second, "of.a": "", "of.b": second, "lit.b": second, "has": "", "x": "", "both": second, "circle": second, "makes": second, "fails": ""} {
		if want == "" {
			mustDoubt(t, with, sp, name, "", "")
		} else {
			mustDoubt(t, with, sp, name, first, want)
		}
	}
	// What has no form is not there as the empty text.
	for _, name := range []string{"half", "loop"} {
		mustDoubt(t, storeOf(1, formWithSumOf(t, "", 1)), sp, name, "", "")
	}
	missing := impl.FormResult(ended(impl.Missing, "nothing"))
	mustDoubt(t, storeOf(1, formWithSumOf(t, missing, 1)), sp, "nothing", formWithSumOf(t, missing, 1), missing)
	mustDoubt(t, storeOf(1, missing), sp, "nothing", "", "")
	// Deep ends all, but what is given was made.
	deep := ladder(impl.MaxDepth+1, copying("s")...)
	deep, _ = impl.PutTarget(deep, rung(0), program(joining("s", rung(1))...))
	given := "0:given"
	clash := formWithSumOf(t, given, 1)
	mustDoubt(t, storeOf(1, clash), deep, rung(0), clash, given)
	mustDoubt(t, storeOf(1, clash), deep, rung(1), clash, given)
	deep, _ = impl.PutTarget(deep, rung(0), program(copying(rung(1))...))
	mustDoubt(t, storeOf(1, clash), deep, rung(0), "", "")
}

// The texts of a store that is full and those behind them are more than Clash
// takes.
func TestDoubtOfALongList(t *testing.T) {
	full := fullStore(t, impl.MaxBlobs)
	inside := full.Texts[2000]
	sp := spaceOf(source("s", "x"), source("clash", formWithSumOf(t, inside, 2)[2:]), target("t", copying("clash")...))
	mustDoubt(t, full, sp, "s", "", "")
	mustDoubt(t, full, sp, "t", inside, "0:"+sp.Sources[0].Text)
	mustDoubt(t, full, sp, "clash", inside, "0:"+sp.Sources[0].Text)
}

// fullStore gives a store of width 2 with n texts, which have no sum in common
// with 1, 0 and the few texts of the tests.
func fullStore(t *testing.T, n int) impl.Store {
	t.Helper()
	met := map[string]bool{}
	for _, text := range []string{"1", "0", "0:x", "0:y", "0:given", "0:out", "1:x"} {
		if met[impl.Sum(text, 2)] {
			t.Fatal("the texts of the test have sums in common")
		}
		met[impl.Sum(text, 2)] = true
	}
	var texts []string
	for i := 0; len(texts) < n; i++ {
		text := "0:" + strconv.Itoa(i)
		if sum := impl.Sum(text, 2); !met[sum] {
			met[sum] = true
			texts = append(texts, text)
		}
	}
	return storeOf(2, texts...)
}

func TestDoubtAsTold(t *testing.T) {
	d := &dice{103}
	shown, none := 0, 0
	for s, sp := range inWorlds(d, 2000, world.lying) {
		for _, name := range fewNames {
			a, b, ok := doubtOf(s, sp, name)
			mustDoubt(t, s, sp, name, a, b)
			if ok {
				shown++
			} else {
				none++
			}
		}
		if t.Failed() {
			t.Fatalf("in %v with %v", sp, s)
		}
	}
	if shown < 300 || none < 1000 {
		t.Errorf("%d were shown, %d times there was none", shown, none)
	}
}

// A clash that leads a record's trying where no run would go: the end is then
// not that of Clean, and there is doubt.
func TestEndsMetByAClash(t *testing.T) {
	for width := 1; width <= 2; width++ {
		one, other := twoForms(t, width)
		// It asks for the name at the end of what it sees, unless that is the other text.
		follow := program(lit("s"), op(impl.OpAsk), lit(other[2:]), op(impl.OpSame), opN(impl.OpUnless, 7), lit("fine"), op(impl.OpEnd),
			lit("next"), op(impl.OpAsk), op(impl.OpEnd))
		before := spaceOf(source("s", one[2:]), source("next", "given"), impl.Target{Name: "t", Action: follow})
		s := withRun(impl.Store{Width: width}, before, "t")
		if len(s.Records) != 1 || !allVouched(s) {
			t.Fatal("the store of the test")
		}
		sp, _ := impl.PutSource(before, "s", other[2:])
		mustClean(t, sp, "t", done("fine"))
		mustBuild(t, s, sp, "t", done("given"), "", "t")
		mustDoubt(t, s, sp, "t", one, other)
		sp, _ = impl.PutTarget(sp, "next", program(copying("t")...))
		mustClean(t, sp, "t", done("fine"))
		mustEnd(t, s, sp, "t", builtOf(circle("t", "next"), s))
		mustEnd(t, s, sp, "next", builtOf(circle("next", "t"), s))
		mustDoubt(t, s, sp, "t", one, other)
		for i := range impl.MaxDepth - 1 {
			sp, _ = impl.PutTarget(sp, rung(i), program(copying(rung(i+1))...))
		}
		sp, _ = impl.PutSource(sp, rung(impl.MaxDepth-1), "end")
		sp, _ = impl.PutTarget(sp, "next", program(copying(rung(1))...))
		mustBuild(t, s, sp, "next", done("end"), ladderRan(impl.MaxDepth-2, 1)+" next", "")
		sp, _ = impl.PutTarget(sp, "next", program(copying(rung(0))...))
		mustClean(t, sp, "t", done("fine"))
		mustEnd(t, s, sp, "t", builtOf(ended(impl.Deep, rung(impl.MaxDepth-2)), s))
		mustDoubt(t, s, sp, "t", one, other)
	}
}

// ladderRan gives the rungs from one down to another.
func ladderRan(from, to int) string {
	out := ""
	for i := from; i >= to; i-- {
		out += " " + rung(i)
	}
	return out
}

package tests

import (
	"slices"
	"testing"

	"loop.example/kilntrace/impl"
)

// askThenHas asks for a and has of b, and ends with both.
func askThenHas() impl.Program {
	return program(lit("a"), op(impl.OpAsk), lit("b"), op(impl.OpHas), op(impl.OpCat), op(impl.OpEnd))
}

func mustNote(t *testing.T, p impl.Program, looks []impl.Seen, r impl.Result, width int, want impl.Record) {
	t.Helper()
	if got := impl.Note(p, looks, r, width); !sameRecords(got, want) {
		t.Errorf("%s, not %s", brief(got), brief(want))
	}
}

func TestNote(t *testing.T) {
	p := askThenHas()
	looks := []impl.Seen{asked("a", "0:x"), hasSaid("b", "0"), asked("a", "not a form"), hasSaid("a", ""), hasSaid("a", long(impl.MaxText+3))}
	for width := 1; width <= impl.MaxWidth; width++ {
		var want []impl.Glance
		for _, seen := range looks {
			want = append(want, glanceOf(seen, width))
		}
		mustNote(t, p, looks, done("x0"), width, impl.Record{Action: p, Looks: want, Out: impl.Sum("0:x0", width)})
		mustNote(t, p, nil, ended(impl.Spent, ""), width, impl.Record{Action: p, Out: impl.Sum("3:", width)})
	}
	for code := impl.Done; code <= impl.Below; code++ {
		r := impl.Result{Code: code, Text: long(impl.MaxText), Chain: []string{}}
		mustNote(t, p, nil, r, 8, impl.Record{Action: p, Out: impl.Sum(impl.FormResult(r), 8)})
	}
	many := slices.Repeat(looks[:1], impl.MaxLooks)
	mustNote(t, p, many, done(""), 1, impl.Record{Action: p, Looks: slices.Repeat([]impl.Glance{glanceOf(looks[0], 1)}, impl.MaxLooks), Out: impl.Sum("0:", 1)})
	named := []impl.Seen{asked(long(impl.MaxName), "0:")}
	mustNote(t, p, named, done(""), 1, impl.Record{Action: p, Looks: []impl.Glance{glanceOf(named[0], 1)}, Out: impl.Sum("0:", 1)})
}

func TestWhatNoteRefuses(t *testing.T) {
	p := askThenHas()
	looks := []impl.Seen{asked("a", "0:x")}
	none := impl.Record{}
	for _, wrong := range []impl.Program{{}, program(op(0)), program(op(16)), {Code: several(impl.MaxIns+1, op(impl.OpEnd))}} {
		mustNote(t, wrong, looks, done("x"), 8, none)
	}
	for _, width := range noWidths {
		mustNote(t, p, looks, done("x"), width, none)
		mustNote(t, p, nil, done("x"), width, none)
	}
	mustNote(t, p, slices.Repeat(looks, impl.MaxLooks+1), done("x"), 8, none)
	for _, name := range []string{"", " ", "a b", "\n", "\x7f", "\xff", long(impl.MaxName + 1)} {
		mustNote(t, p, []impl.Seen{asked(name, "0:x")}, done("x"), 8, none)
		mustNote(t, p, []impl.Seen{looks[0], hasSaid(name, "1")}, done("x"), 8, none)
		mustNote(t, p, []impl.Seen{hasSaid(name, "1"), looks[0]}, done("x"), 8, none)
	}
	for _, r := range []impl.Result{circle("a"), ended(impl.Circle, ""), ended(impl.Deep, "a"), ended(impl.NotValid, ""), ended(-1, ""), done(long(impl.MaxText + 1)), {Chain: []string{"a"}}} {
		mustNote(t, p, looks, r, 8, none)
	}
}

// mustVouch asks for a code, and that of each store and record nothing changes.
func mustVouch(t *testing.T, s impl.Store, r impl.Record, want int) {
	t.Helper()
	givenStore, given := copyStore(s), copyRecord(r)
	if got := impl.Vouch(s, r); got != want {
		t.Errorf("%s by %s: %d, not %d", brief(r), brief(s), got, want)
	}
	if !sameStores(s, givenStore) || !sameRecords(r, given) {
		t.Error("an argument was changed")
	}
}

func TestVouchCodeOne(t *testing.T) {
	p := askThenHas()
	looks := []impl.Seen{asked("a", "0:x"), hasSaid("b", "1")}
	for what, s := range wrongStores() {
		if s.Width < 1 || s.Width > impl.MaxWidth {
			s.Texts = []string{"0:x1"}
		}
		for width := 1; width <= impl.MaxWidth; width++ {
			if code := impl.Vouch(s, impl.Note(p, looks, done("x1"), width)); code != 1 {
				t.Errorf("%s: %d", what, code)
			}
		}
	}
	for width := 1; width <= impl.MaxWidth; width++ {
		s := storeOf(width, "0:x", "0:x1")
		for other := 1; other <= impl.MaxWidth; other++ {
			if other == width {
				mustVouch(t, s, impl.Note(p, looks, done("x1"), other), 0)
				continue
			}
			mustVouch(t, s, impl.Note(p, looks, done("x1"), other), 1)
			// A Sum alone of another width, an Out alone.
			r := impl.Note(p, looks, done("x1"), width)
			r.Looks[1].Sum = impl.Sum("1", other)
			mustVouch(t, s, r, 1)
			r = impl.Note(p, looks, done("x1"), width)
			r.Out = impl.Sum("0:x1", other)
			mustVouch(t, s, r, 1)
		}
	}
	s := storeOf(3, "0:x", "0:x1")
	mustVouch(t, s, impl.Record{}, 1)
	for _, wrong := range wrongStores() {
		for _, r := range wrong.Records[:min(len(wrong.Records), 2)] {
			if wrong.Width == 3 && !impl.ValidStore(impl.Store{Width: 3, Records: []impl.Record{r}}) {
				mustVouch(t, s, r, 1) // also where 2 applies, too
			}
		}
	}
}

// bent gives the record of askThenHas at a width of 8, changed by a function.
func bent(change func(r *impl.Record)) impl.Record {
	r := impl.Note(askThenHas(), []impl.Seen{asked("a", "0:x"), hasSaid("b", "1")}, done("x1"), 8)
	change(&r)
	return r
}

func TestVouchCodes(t *testing.T) {
	sum := func(text string) string { return impl.Sum(text, 8) }
	s := storeOf(8, "0:x", "0:x1", "0:x0", "no form", "1", "0", "6:a")
	for i, c := range []struct {
		want   int
		change func(r *impl.Record)
	}{
		{0, func(r *impl.Record) {}},
		// Another name, another way to look.
		{2, func(r *impl.Record) { r.Looks[0].Name = "b" }},
		{2, func(r *impl.Record) { r.Looks[0].Ask = false }},
		{2, func(r *impl.Record) { r.Looks[1].Name = "a" }},
		{2, func(r *impl.Record) { r.Looks[1].Ask = true }},
		{2, func(r *impl.Record) { r.Looks[0], r.Looks[1] = r.Looks[1], r.Looks[0] }},
		// Looks that are lacking, looks left over.
		{2, func(r *impl.Record) { r.Looks = nil }},
		{2, func(r *impl.Record) { r.Looks = r.Looks[:1] }},
		{2, func(r *impl.Record) { r.Looks = r.Looks[1:] }},
		{2, func(r *impl.Record) { r.Looks = append(r.Looks, r.Looks[1]) }},
		{2, func(r *impl.Record) { r.Looks = append(r.Looks, askedSum("z", sum("0:x"))) }},
		// What tells nothing.
		{3, func(r *impl.Record) { r.Looks[0].Sum = sum("0:y") }},
		{3, func(r *impl.Record) { r.Looks[0].Sum = sum("no form") }},
		{3, func(r *impl.Record) { r.Looks[0].Sum = sum("6:a") }},
		{3, func(r *impl.Record) { r.Looks[0].Sum = sum("1") }},
		{3, func(r *impl.Record) { r.Looks[1].Sum = sum("2") }},
		{3, func(r *impl.Record) { r.Looks[1].Sum = sum("") }},
		{3, func(r *impl.Record) { r.Looks[1].Sum = sum("0:x") }},
		// Another end, or none that is there.
		{4, func(r *impl.Record) { r.Out = sum("0:x0") }},
		{4, func(r *impl.Record) { r.Out = sum("0:not there") }},
		{4, func(r *impl.Record) { r.Out = sum("no form") }},
		{4, func(r *impl.Record) { r.Looks[1].Sum = sum("0") }},
		{0, func(r *impl.Record) { r.Looks[1].Sum, r.Out = sum("0"), sum("0:x0") }},
		{4, func(r *impl.Record) { r.Looks[0].Sum = sum("0:x1") }},
		// At each look 2 comes ahead of 3, but an earlier look ahead of a later one.
		{2, func(r *impl.Record) { r.Looks[0].Name, r.Looks[0].Sum = "c", sum("0:y") }},
		{2, func(r *impl.Record) { r.Looks[1].Ask, r.Looks[1].Sum = true, sum("2") }},
		{3, func(r *impl.Record) { r.Looks[0].Sum, r.Looks[1].Name = sum("0:y"), "c" }},
		{3, func(r *impl.Record) { r.Looks[0].Sum, r.Looks = sum("0:y"), r.Looks[:1] }},
		{3, func(r *impl.Record) { r.Looks = append(r.Looks, r.Looks[1]); r.Looks[1].Sum = sum("2") }},
		{2, func(r *impl.Record) { r.Looks[0].Name, r.Looks[1].Sum = "c", sum("2") }},
		// Both come ahead of 4, and 1 ahead of all.
		{2, func(r *impl.Record) { r.Looks, r.Out = r.Looks[:1], sum("0:not there") }},
		{3, func(r *impl.Record) { r.Looks[1].Sum, r.Out = sum("2"), sum("0:not there") }},
		{1, func(r *impl.Record) { r.Looks[0].Name, r.Looks[1].Name = "c", "" }},
		{1, func(r *impl.Record) { r.Looks[0].Sum, r.Out = sum("0:y"), "" }},
		{1, func(r *impl.Record) { r.Looks = slices.Repeat(r.Looks[:1], impl.MaxLooks+1) }},
		{2, func(r *impl.Record) { r.Looks = slices.Repeat(r.Looks[:1], impl.MaxLooks) }},
	} {
		r := bent(c.change)
		if code := impl.Vouch(s, r); code != c.want {
			t.Errorf("case %d: %d, not %d", i, code, c.want)
		}
	}
}

// What a text tells of the name that was looked at.
func TestWhatTextsTell(t *testing.T) {
	p := askThenHas()
	forms := []string{"0:x", "0:", "1:why", "1:a", "2:0", "2:a", "3:", "3:a", "4:a", "4:b", "4:", "4:aa", "5:a", "5:b"}
	ends := []string{"0:x1", "0:1", "4:a", "5:a", "4:b", "5:b", "2:4"}
	s := storeOf(8, append(slices.Clone(forms), ends...)...)
	for _, form := range forms {
		want := "5:a"
		looks := []impl.Seen{asked("a", form)}
		switch form {
		case "4:a":
			want = "4:a"
		case "0:x", "0:":
			want = form + "1"
			looks = append(looks, hasSaid("b", "1"))
		}
		for _, end := range ends {
			r, _ := impl.ReadResult(end)
			code := 4
			if end == want {
				code = 0
			}
			mustVouch(t, s, impl.Note(p, looks, r, 8), code)
		}
		// A run that has ended has no more looks.
		if len(looks) == 1 {
			mustVouch(t, s, impl.Note(p, append(looks, hasSaid("b", "1")), ended(impl.Below, "a"), 8), 2)
		}
	}
	mustVouch(t, storeOf(8, "0:"+long(impl.MaxText)), impl.Note(program(copying("a")...), []impl.Seen{asked("a", "0:"+long(impl.MaxText))}, done(long(impl.MaxText)), 8), 0)
}

// A run that looks as often as it may is vouched for; one look less is lacking.
func TestVouchForManyLooks(t *testing.T) {
	p := program(lit("b"), op(impl.OpHas), opN(impl.OpUnless, 0), opN(impl.OpJump, 0))
	looks := slices.Repeat([]impl.Seen{hasSaid("b", "1"), hasSaid("b", "0")}, impl.MaxLooks/2)
	s := storeOf(2, "3:")
	mustVouch(t, s, impl.Note(p, looks, ended(impl.Spent, ""), 2), 0)
	mustVouch(t, s, impl.Note(p, looks[1:], ended(impl.Spent, ""), 2), 2)
	mustVouch(t, s, impl.Note(p, nil, ended(impl.Spent, ""), 2), 2)
}

// byNext is Vouch for a valid store and a record that it may hold, told by
// replays of Next.
func byNext(s impl.Store, r impl.Record) int {
	find := func(sum string) (string, bool) {
		for _, text := range s.Texts {
			if impl.Sum(text, s.Width) == sum {
				return text, true
			}
		}
		return "", false
	}
	var replies []impl.Reply
	for {
		turn := impl.Next(r.Action, replies)
		left := r.Looks[len(replies):]
		if turn.Over && len(left) == 0 {
			out, there := find(r.Out)
			if there && out == impl.FormResult(ended(turn.Code, turn.Text)) {
				return 0
			}
			return 4
		}
		if turn.Over || len(left) == 0 || turn.Name != left[0].Name || turn.Ask != left[0].Ask {
			return 2
		}
		if !turn.Ask {
			if left[0].Sum != impl.Sum("1", s.Width) && left[0].Sum != impl.Sum("0", s.Width) {
				return 3
			}
			replies = append(replies, impl.Reply{Has: left[0].Sum == impl.Sum("1", s.Width)})
			continue
		}
		text, there := find(left[0].Sum)
		lay, read := impl.ReadResult(text)
		if !there || !read {
			return 3
		}
		replies = append(replies, impl.Reply{Has: text != "4:"+turn.Name, Code: lay.Code, Text: lay.Text})
	}
}

// bend changes a record in a place or two, as a store may still hold it.
func bend(d *dice, r impl.Record, width int) {
	for range 1 + d.below(2) {
		sum := impl.Sum(d.pick("0", "1", "0:a", "0:b c", "4:a", "4:h", "1:why", "0:", "2", d.text(2)), width)
		if len(r.Looks) == 0 || d.below(5) == 0 {
			r.Action.Code[d.below(len(r.Action.Code))] = lit(d.pick("a", "b", "c"))
			continue
		}
		at := &r.Looks[d.below(len(r.Looks))]
		switch d.below(4) {
		case 0:
			at.Name = d.pick(fewNames...)
		case 1:
			at.Ask = !at.Ask
		default:
			at.Sum = sum
		}
	}
}

// neededBy gives the texts by which the record of a trail is vouched for.
func neededBy(looks []impl.Seen, r impl.Result) []string {
	var out []string
	for _, seen := range looks {
		if seen.Ask {
			out = append(out, seen.Said)
		}
	}
	return append(out, impl.FormResult(r))
}

// The record of each trail is vouched for by every store that has the texts,
// whatever else it has.
func TestTrailsAreVouchedFor(t *testing.T) {
	d := &dice{53}
	vouched := 0
	codes := make([]int, 5)
	for round := range 1500 {
		sp := anySpace(d)
		width := 1 + round%impl.MaxWidth
		for _, target := range sp.Targets {
			looks, r := impl.Trail(sp, target.Name)
			needed := neededBy(looks, r)
			if _, _, clash := impl.Clash(needed, width); r.Code > impl.Below || clash {
				continue
			}
			rec := impl.Note(target.Action, looks, r, width)
			s := storeOf(width, needed...)
			mustVouch(t, s, rec, 0)
			for range 5 { // more texts, and records that are none
				if kept := impl.PutText(s, d.pick("0:", "4:a", "1", "0", d.text(3), "0:"+d.text(2))); kept.Code == 0 {
					s = kept.Store
				}
			}
			s.Records = append(s.Records, anyRecord(d, width))
			mustVouch(t, s, rec, 0)
			vouched++
			for _, text := range needed {
				lacking := impl.Store{Width: width, Texts: slices.DeleteFunc(slices.Clone(s.Texts), func(x string) bool { return x == text })}
				code := byNext(lacking, rec)
				if code == 0 {
					t.Fatalf("%q is not needed", text)
				}
				mustVouch(t, lacking, rec, code)
				codes[code]++
			}
			for range 4 {
				other := copyRecord(rec)
				bend(d, other, width)
				code := byNext(s, other)
				mustVouch(t, s, other, code)
				codes[code]++
			}
			if t.Failed() {
				t.Fatalf("%s in %v", target.Name, sp)
			}
		}
	}
	if vouched < 2000 || slices.Min([]int{codes[0], codes[2], codes[3], codes[4]}) < 500 {
		t.Errorf("%d were vouched for, the codes %v", vouched, codes)
	}
}

func mustFit(t *testing.T, r impl.Record, seen []impl.Seen, width, want int) {
	t.Helper()
	if got := impl.Fits(r, seen, width); got != want {
		t.Errorf("%s and %s: %d, not %d", brief(r.Looks), brief(seen), got, want)
	}
}

func TestFits(t *testing.T) {
	p := askThenHas()
	seen := []impl.Seen{asked("a", "0:x"), hasSaid("b", "1"), asked("a", "0:x"), asked("c", "")}
	for width := 1; width <= impl.MaxWidth; width++ {
		r := impl.Note(p, seen, done(""), width)
		for n := range len(seen) + 1 {
			mustFit(t, r, seen[:n], width, n)
			part := copyRecord(r)
			part.Looks = part.Looks[:n]
			mustFit(t, part, seen, width, n)
			if n == len(seen) {
				continue
			}
			// A look that only in part is that of the list.
			for _, change := range []func(s *impl.Seen){
				func(s *impl.Seen) { s.Name += "x" },
				func(s *impl.Seen) { s.Name = "" },
				func(s *impl.Seen) { s.Ask = !s.Ask },
				func(s *impl.Seen) { s.Said += "x" },
			} {
				other := slices.Clone(seen)
				change(&other[n])
				mustFit(t, r, other, width, n)
			}
			shorter := copyRecord(r)
			shorter.Looks[n].Sum = shorter.Looks[n].Sum[1:]
			mustFit(t, shorter, seen, width, n)
		}
		mustFit(t, r, nil, width, 0)
		mustFit(t, r, append(slices.Clone(seen), seen...), width, len(seen))
		mustFit(t, r, append(slices.Clone(seen), impl.Seen{}), width, len(seen))
		mustFit(t, impl.Record{}, seen, width, 0)
		mustFit(t, impl.Record{}, []impl.Seen{{}}, width, 0)
		if other := width%impl.MaxWidth + 1; impl.Fits(r, seen, other) != 0 {
			t.Errorf("sums of width %d fit those of width %d", width, other)
		}
	}
	// Only the sum is compared, and nothing of the record is asked to be valid.
	first, second := twoWithOneSum(t)
	mustFit(t, impl.Record{Looks: []impl.Glance{askedSum("", impl.Sum(first, 1))}}, []impl.Seen{asked("", second)}, 1, 1)
}

func TestLimitsOfFits(t *testing.T) {
	one := asked("a", "0:x")
	r := impl.Record{Looks: slices.Repeat([]impl.Glance{glanceOf(one, 8)}, impl.MaxLooks)}
	many := slices.Repeat([]impl.Seen{one}, impl.MaxLooks)
	mustFit(t, r, many, 8, impl.MaxLooks)
	mustFit(t, r, append(slices.Clone(many), one), 8, 0)
	r.Looks = append(r.Looks, r.Looks[0])
	mustFit(t, r, many, 8, 0)
	mustFit(t, r, many[:1], 8, 0)
	for _, width := range noWidths {
		mustFit(t, impl.Record{Looks: []impl.Glance{askedSum("a", ""), askedSum("a", "x")}}, many[:1], width, 0)
	}
}

// fitsByOne is Fits told look by look.
func fitsByOne(r impl.Record, seen []impl.Seen, width int) int {
	n := 0
	for n < len(r.Looks) && n < len(seen) && r.Looks[n] == glanceOf(seen[n], width) {
		n++
	}
	return n
}

func TestFitsOfTrails(t *testing.T) {
	d := &dice{54}
	counts := make([]int, 4)
	for round := range 1000 {
		width := 1 + round%impl.MaxWidth
		one, other := anySpace(d), anySpace(d)
		given := copySpace(one)
		for _, target := range one.Targets {
			looks, r := impl.Trail(one, target.Name)
			rec := impl.Note(target.Action, looks, r, width)
			changed, code := impl.PutTarget(other, target.Name, target.Action)
			if code != 0 || r.Code > impl.Below {
				continue
			}
			later, _ := impl.Trail(changed, target.Name)
			before, trail := copyRecord(rec), slices.Clone(later)
			n := fitsByOne(rec, later, width)
			mustFit(t, rec, later, width, n)
			mustFit(t, rec, looks, width, len(looks))
			counts[min(n, 3)]++
			if !sameRecords(rec, before) || !slices.Equal(later, trail) {
				t.Fatal("an argument was changed")
			}
		}
		if !sameSpaces(one, given) {
			t.Fatal("the space was changed")
		}
	}
	if slices.Min(counts) < 20 {
		t.Errorf("fits of 0, 1, 2 and more looks: %v", counts)
	}
}

func TestNotesShareNothing(t *testing.T) {
	p := askThenHas()
	looks := []impl.Seen{asked("a", "0:x"), hasSaid("b", "1")}
	givenLooks := slices.Clone(looks)
	one, two := impl.Note(p, looks, done("x1"), 8), impl.Note(p, looks, done("x1"), 8)
	want := copyRecord(one)
	spoilRecord(one)
	if !samePrograms(p, askThenHas()) || !slices.Equal(looks, givenLooks) || !sameRecords(two, want) {
		t.Error("a record shares memory with an argument or another record")
	}
	for i := range p.Code {
		p.Code[i] = lit("!spoilt")
	}
	if !sameRecords(two, want) {
		t.Error("a record shares memory with its program")
	}
}

package tests

import (
	"slices"
	"strconv"
	"testing"

	"loop.example/kilntrace/impl"
)

// mustMerge asks for an answer, and that nothing is changed.
func mustMerge(t *testing.T, a, b impl.Store, want impl.Kept) {
	t.Helper()
	givenA, givenB := copyStore(a), copyStore(b)
	if got := impl.Merge(a, b); !sameKept(got, want) {
		t.Errorf("%s and %s: %s with %d texts, %d records, not %s with %d texts, %d records", brief(a), brief(b),
			brief(got), len(got.Store.Texts), len(got.Store.Records), brief(want), len(want.Store.Texts), len(want.Store.Records))
	}
	if !sameStores(a, givenA) || !sameStores(b, givenB) {
		t.Error("an argument was changed")
	}
}

func TestMerge(t *testing.T) {
	one, two, three := recordOf(8, askedSum("a", long(8))), recordOf(8, hasSum("b", long(8))), recordOf(8)
	a := storeWith([]string{"0:a", "0:both"}, one, two)
	b := storeWith([]string{"0:b", "0:both", ""}, two, three, three)
	mustMerge(t, a, b, impl.Kept{Store: storeWith([]string{"0:a", "0:b", "0:both", ""}, one, two, three, three)})
	mustMerge(t, b, a, impl.Kept{Store: storeWith([]string{"0:a", "0:b", "0:both", ""}, two, three, three, one)})
	empty := impl.Store{Width: 8}
	for _, s := range []impl.Store{empty, a, b, storeWith(nil, one, one, two, one), storeOf(8, "0:a")} {
		mustMerge(t, s, empty, impl.Kept{Store: s})
		mustMerge(t, empty, s, impl.Kept{Store: s})
		mustMerge(t, s, s, impl.Kept{Store: s})
	}
	for what, s := range validStores() {
		none := impl.Store{Width: s.Width}
		if got := impl.Merge(none, s); !sameKept(got, impl.Kept{Store: s}) {
			t.Errorf("%s: into nothing: %s", what, brief(got))
		}
		if got := impl.Merge(s, none); !sameKept(got, impl.Kept{Store: s}) {
			t.Errorf("%s: nothing into it: %s", what, brief(got))
		}
		if got := impl.Merge(s, s); !sameKept(got, impl.Kept{Store: s}) {
			t.Errorf("%s: into itself: %s", what, brief(got))
		}
	}
}

// A record is put as often as b has it, unless a has it.
func TestRecordsThatBothHave(t *testing.T) {
	x, y, z := recordOf(8), recordOf(8, askedSum("a", long(8))), recordOf(8, hasSum("a", long(8)))
	for i, c := range []struct{ a, b, want []impl.Record }{
		{[]impl.Record{x}, []impl.Record{x}, []impl.Record{x}},
		{nil, []impl.Record{x, x}, []impl.Record{x, x}},
		{[]impl.Record{y}, []impl.Record{x, x}, []impl.Record{y, x, x}},
		{[]impl.Record{y}, []impl.Record{x, y, x}, []impl.Record{y, x, x}},
		{[]impl.Record{x}, []impl.Record{x, x}, []impl.Record{x}},
		{[]impl.Record{x, x}, []impl.Record{x}, []impl.Record{x, x}},
		{[]impl.Record{x, x}, []impl.Record{x, x, x}, []impl.Record{x, x}},
		{[]impl.Record{x, y, x}, []impl.Record{z, y, x, z}, []impl.Record{x, y, x, z, z}},
		{[]impl.Record{z, y}, []impl.Record{y, x, z, y}, []impl.Record{z, y, x}},
	} {
		t.Logf("case %d", i)
		mustMerge(t, storeWith(nil, c.a...), storeWith(nil, c.b...), impl.Kept{Store: storeWith(nil, c.want...)})
	}
	// The empty list and the nil list are the same.
	bare := impl.Record{Action: x.Action, Looks: []impl.Glance{}, Out: x.Out}
	mustMerge(t, storeWith(nil, x), storeWith(nil, bare), impl.Kept{Store: storeWith(nil, x)})
	mustMerge(t, storeWith(nil, bare), storeWith(nil, x), impl.Kept{Store: storeWith(nil, x)})
	// Lists with room behind them are the lists alone.
	roomy := impl.Record{Action: program(append(copying("a"), op(impl.OpEnd))[:3]...), Looks: glances(3, 8)[:0], Out: x.Out}
	mustMerge(t, storeWith(nil, x), storeWith(nil, roomy), impl.Kept{Store: storeWith(nil, x)})
}

// Records that differ in a single field are two.
func TestRecordsThatDiffer(t *testing.T) {
	full := func() impl.Record {
		r := impl.Record{Out: "outoutou"}
		for range impl.MaxIns / 2 {
			r.Action.Code = append(r.Action.Code, lit("a"), opN(impl.OpCut, 7))
		}
		for range impl.MaxLooks / 2 {
			r.Looks = append(r.Looks, askedSum("a", "sumsumsu"), hasSum("b", "otherone"))
		}
		return r
	}
	small := func() impl.Record {
		return impl.Record{Action: program(lit("a"), opN(impl.OpCut, 7)), Looks: []impl.Glance{askedSum("a", "sumsumsu"), hasSum("b", "otherone")}, Out: "outoutou"}
	}
	changes := []func(r *impl.Record){
		func(r *impl.Record) { r.Out = "outoutov" },
		func(r *impl.Record) { r.Out = "\x00utoutou" },
		func(r *impl.Record) { r.Action.Code = r.Action.Code[:len(r.Action.Code)-1] },
		func(r *impl.Record) { r.Looks = r.Looks[:len(r.Looks)-1] },
		func(r *impl.Record) { r.Looks = nil },
		func(r *impl.Record) { slices.Reverse(r.Looks) },
		func(r *impl.Record) { slices.Reverse(r.Action.Code) },
	}
	for _, last := range []bool{false, true} {
		at := func(n int) int { // the place of the first or the last two entries
			if last {
				return n - 2
			}
			return 0
		}
		changes = append(changes,
			func(r *impl.Record) { r.Action.Code[at(len(r.Action.Code))].Text = "b" },
			func(r *impl.Record) { r.Action.Code[at(len(r.Action.Code))].Text = "" },
			func(r *impl.Record) { r.Action.Code[at(len(r.Action.Code))+1].N = 8 },
			func(r *impl.Record) { r.Action.Code[at(len(r.Action.Code))+1].N = 0 },
			func(r *impl.Record) { r.Action.Code[at(len(r.Action.Code))+1].Op = impl.OpRest },
			func(r *impl.Record) { r.Looks[at(len(r.Looks))].Name = "b" },
			func(r *impl.Record) { r.Looks[at(len(r.Looks))].Ask = false },
			func(r *impl.Record) { r.Looks[at(len(r.Looks))+1].Ask = true },
			func(r *impl.Record) { r.Looks[at(len(r.Looks))].Sum = "sumsumsv" },
			func(r *impl.Record) { r.Looks[at(len(r.Looks))+1].Sum = "otheron\x00" },
		)
	}
	for _, fresh := range []func() impl.Record{small, full} {
		for i, change := range changes {
			t.Logf("change %d", i)
			r, other := fresh(), fresh()
			change(&other)
			mustMerge(t, storeWith(nil, r), storeWith(nil, other), impl.Kept{Store: storeWith(nil, r, other)})
			mustMerge(t, storeWith(nil, other), storeWith(nil, r, other, fresh()), impl.Kept{Store: storeWith(nil, other, r, r)})
			mustMerge(t, storeWith(nil, r), storeWith(nil, fresh(), other), impl.Kept{Store: storeWith(nil, r, other)})
		}
	}
}

// Records of all sizes that differ at one place, in their size, or in the order of
// their entries are told apart, each from each other.
func TestRecordsOfAllSizes(t *testing.T) {
	var records []impl.Record
	for _, n := range []int{1, 2, 7, 8, 9, 15, 16, 17, 24, 32, 33, 64, impl.MaxIns - 1, impl.MaxIns} {
		same := impl.Record{Action: program(several(n, lit("a"))...), Looks: glances(n, 8), Out: long(8)}
		bare := impl.Record{Action: copyOf(same.Action), Out: long(8)}
		half, turned := copyRecord(same), copyRecord(same)
		for i := range n {
			half.Action.Code[i].Text = strconv.Itoa(i * 2 / n)
			turned.Action.Code[i].Text = strconv.Itoa(1 - i*2/n)
		}
		if n == 1 {
			records = append(records, same, bare, half)
			continue
		}
		records = append(records, same, bare, half, turned)
		for _, at := range []int{0, 1, 6, 7, 8, 9, 15, 16, n / 2, n - 1} {
			if at < n {
				code, looks := copyRecord(same), copyRecord(same)
				code.Action.Code[at] = op(impl.OpEnd)
				looks.Looks[at].Name = "else"
				records = append(records, code, looks)
			}
		}
	}
	for i := 0; i < len(records); i += 5 {
		a := storeWith(nil, records[:i]...)
		mustMerge(t, a, storeWith(nil, records...), mergeSlowly(a, storeWith(nil, records...)))
		b := storeWith(nil, records[i])
		mustMerge(t, b, storeWith(nil, records...), mergeSlowly(b, storeWith(nil, records...)))
	}
}

// textsApart gives n texts with sums of their own, and some pairs of one of them
// and another text with its sum.
func textsApart(n, width int) ([]string, [][2]string) {
	met := map[string]string{}
	var texts []string
	var pairs [][2]string
	for i := 0; len(texts) < n || len(pairs) < 3; i++ {
		text := numberedText(i)
		sum := impl.Sum(text, width)
		other, there := met[sum]
		if there && len(pairs) < 3 {
			pairs = append(pairs, [2]string{other, text})
		} else if !there && len(texts) < n {
			met[sum] = text
			texts = append(texts, text)
		}
	}
	return texts, pairs
}

func numberedText(i int) string { return "0:" + strconv.Itoa(i) }

func TestMergeLimits(t *testing.T) {
	texts := numbered(impl.MaxBlobs + 1)
	for _, c := range []struct{ a, b []string }{
		{texts[:impl.MaxBlobs-1], texts[impl.MaxBlobs-1:]},
		{texts[1:], texts[:1]},
		{texts[:3000], texts[3000:]},
		{texts[:3000], texts[2000:]}, // many that both have
		{texts[:impl.MaxBlobs], texts[1:]},
	} {
		mustMerge(t, storeOf(8, c.a...), storeOf(8, c.b...), impl.Kept{Code: 3})
		mustMerge(t, storeOf(8, c.b...), storeOf(8, c.a...), impl.Kept{Code: 3})
		// Without the last one they just fit in.
		last := texts[impl.MaxBlobs]
		a, b := without(c.a, last), without(c.b, last)
		mustMerge(t, storeOf(8, a...), storeOf(8, b...), impl.Kept{Store: storeOf(8, texts[:impl.MaxBlobs]...)})
		mustMerge(t, storeOf(8, b...), storeOf(8, a...), impl.Kept{Store: storeOf(8, texts[:impl.MaxBlobs]...)})
	}
	records := make([]impl.Record, impl.MaxRecs+1)
	for i := range records {
		records[i] = recordOf(8, askedSum("a", impl.Sum(numberedText(i), 8)))
	}
	most := records[:impl.MaxRecs]
	for _, n := range []int{0, 1, 700, impl.MaxRecs - 1, impl.MaxRecs} {
		fits := impl.Kept{Store: storeWith(nil, most...)}
		mustMerge(t, storeWith(nil, most[:n]...), storeWith(nil, most[n:]...), fits)
		mustMerge(t, storeWith(nil, most[:n]...), storeWith(nil, most[n/2:]...), fits)
		if n > 0 {
			mustMerge(t, storeWith(nil, records[:n]...), storeWith(nil, records[n:]...), impl.Kept{Code: 3})
			mustMerge(t, storeWith(nil, records[:n]...), storeWith(nil, records[(n+1)/2:]...), impl.Kept{Code: 3})
		}
	}
	// One that b has twice counts twice, one that a has counts once.
	twice := []impl.Record{records[impl.MaxRecs], records[impl.MaxRecs]}
	mustMerge(t, storeWith(nil, most[:impl.MaxRecs-1]...), storeWith(nil, twice...), impl.Kept{Code: 3})
	mustMerge(t, storeWith(nil, most[:impl.MaxRecs-2]...), storeWith(nil, twice...), impl.Kept{Store: storeWith(nil, append(slices.Clone(most[:impl.MaxRecs-2]), twice...)...)})
	mustMerge(t, storeWith(nil, most...), storeWith(nil, most[0], most[0], most[5]), impl.Kept{Store: storeWith(nil, most...)})
}

func without(texts []string, text string) []string {
	return slices.DeleteFunc(slices.Clone(texts), func(other string) bool { return other == text })
}

// The codes, and which comes first.
func TestMergeCodes(t *testing.T) {
	good := storeWith([]string{"0:a"}, recordOf(8))
	for what, s := range wrongStores() {
		for _, other := range []impl.Store{good, s, {Width: s.Width}, {Width: 3}} {
			if got := impl.Merge(s, other); !sameKept(got, impl.Kept{Code: 1}) {
				t.Errorf("%s: %s", what, brief(got))
			}
			if got := impl.Merge(other, s); !sameKept(got, impl.Kept{Code: 1}) {
				t.Errorf("%s as the second: %s", what, brief(got))
			}
		}
	}
	for a := 1; a <= impl.MaxWidth; a++ {
		for b := 1; b <= impl.MaxWidth; b++ {
			want := impl.Kept{Code: 1}
			if a == b {
				want = impl.Kept{Store: impl.Store{Width: a}}
			}
			mustMerge(t, impl.Store{Width: a}, impl.Store{Width: b}, want)
		}
	}
	texts, pairs := textsApart(impl.MaxBlobs, 2)
	// Widths that are not the same come ahead of a clash and of what is full.
	mustMerge(t, storeOf(2, texts...), storeOf(3, texts...), impl.Kept{Code: 1})
	wrong := storeOf(2, pairs[0][1])
	wrong.Records = recordsOf(1, 3)
	mustMerge(t, storeOf(2, texts...), wrong, impl.Kept{Code: 1})
	mustMerge(t, wrong, storeOf(2, texts...), impl.Kept{Code: 1})
	// A clash comes ahead of what is full, wherever its sum is in the order.
	fresh := freshTexts(texts, 2, 3)
	for _, pair := range pairs {
		clash := impl.Kept{Code: 2, A: pair[0], B: pair[1]}
		mustMerge(t, storeOf(2, texts...), storeOf(2, append(slices.Clone(fresh), pair[1])...), clash)
		mustMerge(t, storeOf(2, append(slices.Clone(fresh), pair[1])...), storeOf(2, texts...), impl.Kept{Code: 2, A: pair[1], B: pair[0]})
		a, b := storeOf(2, pair[0]), storeOf(2, pair[1])
		a.Records, b.Records = recordsOf(impl.MaxRecs, 2), []impl.Record{recordOf(2, hasSum("a", "xx"))}
		mustMerge(t, a, b, clash)
		b.Texts = a.Texts
		mustMerge(t, a, b, impl.Kept{Code: 3})
		b.Records = a.Records
		mustMerge(t, a, b, impl.Kept{Store: a})
	}
	mustMerge(t, storeOf(2, texts...), storeOf(2, fresh[0]), impl.Kept{Code: 3})
	// The first such text of b in the order of the sums.
	for i := range pairs {
		for j := range i {
			first, second := pairs[i], pairs[j]
			if impl.Sum(first[0], 2) > impl.Sum(second[0], 2) {
				first, second = second, first
			}
			if impl.Sum(first[0], 2) == impl.Sum(second[0], 2) {
				continue
			}
			mustMerge(t, storeOf(2, first[0], second[0]), storeOf(2, second[1], first[1], fresh[0]), impl.Kept{Code: 2, A: first[0], B: first[1]})
			mustMerge(t, storeOf(2, first[0], second[0]), storeOf(2, second[1], first[0]), impl.Kept{Code: 2, A: second[0], B: second[1]})
			mustMerge(t, storeOf(2, first[1], second[1]), storeOf(2, second[0], first[0]), impl.Kept{Code: 2, A: first[1], B: first[0]})
		}
	}
}

// freshTexts gives n texts whose sums are none of those of the others.
func freshTexts(texts []string, width, n int) []string {
	met := map[string]bool{}
	for _, text := range texts {
		met[impl.Sum(text, width)] = true
	}
	var out []string
	for i := 0; len(out) < n; i++ {
		text := "new " + numberedText(i)
		if sum := impl.Sum(text, width); !met[sum] {
			met[sum] = true
			out = append(out, text)
		}
	}
	return out
}

// mergeSlowly is Merge as it is told.
func mergeSlowly(a, b impl.Store) impl.Kept {
	if !impl.ValidStore(a) || !impl.ValidStore(b) || a.Width != b.Width {
		return impl.Kept{Code: 1}
	}
	for _, text := range b.Texts {
		if other, there := impl.GetText(a, impl.Sum(text, a.Width)); there && other != text {
			return impl.Kept{Code: 2, A: other, B: text}
		}
	}
	out := storeOf(a.Width, append(slices.Clone(a.Texts), b.Texts...)...)
	out.Records = slices.Clone(a.Records)
	for _, r := range b.Records {
		if !slices.ContainsFunc(a.Records, func(other impl.Record) bool { return sameRecords(r, other) }) {
			out.Records = append(out.Records, r)
		}
	}
	if len(out.Texts) > impl.MaxBlobs || len(out.Records) > impl.MaxRecs {
		return impl.Kept{Code: 3}
	}
	return impl.Kept{Store: out}
}

func TestMergeAsTold(t *testing.T) {
	d := &dice{161}
	codes := map[int]int{}
	both := 0
	all := worlds(d)
	for a, sp := range inWorlds(d, 3000, world.mixed) {
		w := all[slices.IndexFunc(all, func(w world) bool { return w.width == a.Width })]
		if d.below(20) == 0 {
			w.width = 1 + d.below(impl.MaxWidth)
		}
		b := w.lying(sp)
		for range d.below(4) {
			if n := len(a.Records); n > 0 && a.Width == b.Width {
				b.Records = append(b.Records, copyRecord(a.Records[d.below(n)]))
			}
		}
		d.shuffle(b.Records)
		want := mergeSlowly(a, b)
		mustMerge(t, a, b, want)
		if t.Failed() {
			t.Fatalf("%v and %v", a, b)
		}
		codes[want.Code]++
		if want.Code == 0 && len(want.Store.Records) < len(a.Records)+len(b.Records) {
			both++
		}
	}
	if codes[0] < 1000 || codes[1] < 50 || codes[2] < 50 || both < 500 {
		t.Errorf("codes %v, %d with records that both have", codes, both)
	}
}

// What is merged is vouched for, and with it no target is run that would not be
// run with one of the two.
func TestMergedIsEnough(t *testing.T) {
	d := &dice{162}
	merged, checked, doubts, saved := 0, 0, 0, 0
	for a, sp := range inWorlds(d, 4000, world.vouched) {
		w := world{d, a.Width, []string{"a", "b c", "0", "", "g f", "x"}}
		b := w.vouched(w.variant(sp))
		kept := impl.Merge(a, b)
		if kept.Code != 0 {
			continue
		}
		merged++
		if !impl.ValidStore(kept.Store) || !allVouched(kept.Store) || !hasAllOf(kept.Store, a) {
			t.Fatalf("%v and %v: %v", a, b, kept.Store)
		}
		for _, name := range fewNames {
			if doubted(kept.Store, sp, name) {
				doubts++
				continue
			}
			ran := impl.Build(kept.Store, sp, name).Ran
			for _, alone := range []impl.Store{a, b} {
				one := impl.Build(alone, sp, name)
				if one.Code > impl.Below {
					continue
				}
				checked++
				for _, target := range ran {
					if !slices.Contains(one.Ran, target) {
						t.Fatalf("%s in %v with %v and %v: %s of %q was run", name, sp, a, b, target, ran)
					}
				}
				if len(ran) < len(one.Ran) {
					saved++
				}
			}
		}
	}
	if merged < 2000 || checked < 10000 || doubts < 100 || saved < 1000 {
		t.Errorf("%d merged, %d checked, %d in doubt, %d times less was run", merged, checked, doubts, saved)
	}
}

// Vouched throws away the records of each code of Vouch but 0, and no text.
func TestVouched(t *testing.T) {
	mustKeepOf := func(s impl.Store, want ...impl.Record) {
		t.Helper()
		given := copyStore(s)
		left := impl.Store{Width: s.Width, Texts: s.Texts, Records: want}
		if got := impl.Vouched(s); !sameStores(got, left) {
			t.Errorf("%v: %v", brief(s), brief(got))
		}
		if !sameStores(s, given) {
			t.Error("the argument was changed")
		}
	}
	good := bent(func(*impl.Record) {})
	texts := []string{"0:x", "0:x1", "0:x0", "no form", "not needed", ""}
	codes := map[int][]impl.Record{
		2: {bent(func(r *impl.Record) { r.Looks[0].Name = "b" }), bent(func(r *impl.Record) { r.Looks = r.Looks[:1] })},
		3: {bent(func(r *impl.Record) { r.Looks[0].Sum = impl.Sum("no form", 8) }), bent(func(r *impl.Record) { r.Looks[1].Sum = impl.Sum("2", 8) })},
		4: {bent(func(r *impl.Record) { r.Out = impl.Sum("0:x0", 8) }), bent(func(r *impl.Record) { r.Out = impl.Sum("not there", 8) })},
	}
	mustKeepOf(impl.Store{Width: 8})
	mustKeepOf(storeWith(texts))
	mustKeepOf(storeWith(texts, good, good), good, good)
	mustKeepOf(storeWith(nil, good))
	mustKeepOf(storeWith([]string{"0:x"}, good))
	other := bent(func(r *impl.Record) { r.Looks[1].Sum, r.Out = impl.Sum("0", 8), impl.Sum("0:x0", 8) })
	var all []impl.Record
	for code, wrong := range codes {
		for _, r := range wrong {
			mustVouch(t, storeWith(texts), r, code)
			mustKeepOf(storeWith(texts, r))
			mustKeepOf(storeWith(texts, good, r), good)
			mustKeepOf(storeWith(texts, r, good, other, r), good, other)
			mustKeepOf(storeWith(texts, other, r, r, good), other, good)
			all = append(all, r)
		}
	}
	mustKeepOf(storeWith(texts, append(all, good)...), good)
	for what, s := range wrongStores() {
		if got := impl.Vouched(s); !sameStores(got, impl.Store{}) {
			t.Errorf("%s: %s", what, brief(got))
		}
	}
	if got := impl.Vouched(impl.Store{}); !sameStores(got, impl.Store{}) {
		t.Errorf("nothing: %s", brief(got))
	}
	// As many records as there may be.
	many := storeWith(texts)
	for i := range impl.MaxRecs {
		many.Records = append(many.Records, []impl.Record{good, all[i%len(all)]}[i%2])
	}
	mustKeepOf(many, slices.Repeat([]impl.Record{good}, impl.MaxRecs/2)...)
}

func TestVouchedAsTold(t *testing.T) {
	d := &dice{163}
	kept, gone := 0, 0
	for s := range inWorlds(d, 3000, world.mixed) {
		want := impl.Store{Width: s.Width, Texts: s.Texts}
		for _, r := range s.Records {
			if byNext(s, r) == 0 {
				want.Records = append(want.Records, r)
				kept++
			} else {
				gone++
			}
		}
		got := impl.Vouched(s)
		if !sameStores(got, want) || !impl.ValidStore(got) || !allVouched(got) {
			t.Fatalf("%v: %v", s, got)
		}
		if again := impl.Vouched(got); !sameStores(again, got) {
			t.Fatalf("%v: %v", got, again)
		}
	}
	if kept < 1000 || gone < 1000 {
		t.Errorf("%d kept, %d gone", kept, gone)
	}
}

package tests

import (
	"slices"
	"strconv"
	"testing"

	"loop.example/kilntrace/impl"
)

// recordOf gives a record that each store of this width may hold.
func recordOf(width int, looks ...impl.Glance) impl.Record {
	return impl.Record{Action: program(copying("a")...), Looks: looks, Out: long(width)}
}

func recordsOf(n, width int) []impl.Record {
	var out []impl.Record
	for range n {
		out = append(out, recordOf(width))
	}
	return out
}

func glances(n, width int) []impl.Glance {
	var out []impl.Glance
	for range n {
		out = append(out, askedSum("a", long(width)))
	}
	return out
}

// namedStores gives stores by what there is to say of them.
type namedStores map[string]impl.Store

func validStores() namedStores {
	out := namedStores{
		"five thousand texts": storeOf(8, numbered(impl.MaxBlobs)...),
		"a longest text":      storeOf(8, "", "0:"+long(impl.MaxText), long(impl.MaxText+2)),
		"any bytes":           storeOf(2, "\x00", "\xff\xfe", "\n", "no form", "9:x"),
		"many records":        {Width: 3, Records: recordsOf(impl.MaxRecs, 3)},
		"many looks":          {Width: 3, Records: []impl.Record{recordOf(3, glances(impl.MaxLooks, 3)...)}},
		"a longest name":      {Width: 3, Records: []impl.Record{recordOf(3, askedSum(long(impl.MaxName), "abc"), hasSum("!~", "\x00\xff "))}},
		"a longest program":   {Width: 1, Records: []impl.Record{{Action: impl.Program{Code: several(impl.MaxIns, lit(long(impl.MaxText)))}, Out: "x"}}},
		"a record twice":      {Width: 1, Records: []impl.Record{recordOf(1, askedSum("a", "x")), recordOf(1, askedSum("a", "x"))}},
	}
	for width := 1; width <= impl.MaxWidth; width++ {
		out["empty, of width "+strconv.Itoa(width)] = impl.Store{Width: width, Texts: []string{}, Records: []impl.Record{}}
		out["of width "+strconv.Itoa(width)] = impl.Store{Width: width, Texts: bySums(width, []string{"0:a", "0:b"}), Records: recordsOf(2, width)}
	}
	return out
}

// wrongStores gives stores of which each has one fault.
func wrongStores() namedStores {
	a, b := "0:a", "0:b"
	if impl.Sum(a, 8) > impl.Sum(b, 8) {
		a, b = b, a
	}
	out := namedStores{
		"one text too many":    storeOf(8, numbered(impl.MaxBlobs+1)...),
		"a text too long":      storeOf(8, "0:a", long(impl.MaxText+3)),
		"texts not ascending":  {Width: 8, Texts: []string{b, a}},
		"a text twice":         {Width: 8, Texts: []string{a, a}},
		"one record too many":  {Width: 3, Records: recordsOf(impl.MaxRecs+1, 3)},
		"one look too many":    {Width: 3, Records: []impl.Record{recordOf(3, glances(impl.MaxLooks+1, 3)...)}},
		"an action of nothing": {Width: 3, Records: []impl.Record{{Out: "abc"}}},
		"a wrong action":       {Width: 3, Records: []impl.Record{{Action: program(op(0)), Out: "abc"}}},
		"a longer action":      {Width: 3, Records: []impl.Record{{Action: impl.Program{Code: several(impl.MaxIns+1, op(impl.OpEnd))}, Out: "abc"}}},
	}
	for _, width := range noWidths {
		out["width "+strconv.Itoa(width)] = impl.Store{Width: width}
	}
	for _, size := range []int{0, 2, 4, 8} {
		out["an Out of size "+strconv.Itoa(size)] = impl.Store{Width: 3, Records: []impl.Record{recordOf(3), recordOf(size)}}
		out["a Sum of size "+strconv.Itoa(size)] = impl.Store{Width: 3, Records: []impl.Record{recordOf(3, askedSum("a", "abc"), hasSum("b", long(size)))}}
	}
	for _, name := range []string{"", " ", "a b", "a\n", "\x7f", "\xff", "\x00", long(impl.MaxName + 1)} {
		out["the name "+strconv.Quote(name)] = impl.Store{Width: 3, Records: []impl.Record{recordOf(3, hasSum(name, "abc"))}}
	}
	return out
}

func TestValidStores(t *testing.T) {
	for what, s := range validStores() {
		given := copyStore(s)
		if !impl.ValidStore(s) {
			t.Errorf("%s: not valid", what)
		}
		if !sameStores(s, given) {
			t.Errorf("%s: the store was changed", what)
		}
	}
	for what, s := range wrongStores() {
		if impl.ValidStore(s) {
			t.Errorf("%s: valid", what)
		}
	}
}

// The order of the texts is that of their sums, and not that of their bytes.
func TestOrderOfTexts(t *testing.T) {
	for width := 1; width <= impl.MaxWidth; width++ {
		texts := []string{"0:a", "0:b", "0:c", "0:d"}
		sorted := bySums(width, texts)
		if slices.Equal(sorted, texts) {
			t.Fatalf("width %d: the texts of the test don't tell the orders apart", width)
		}
		if impl.ValidStore(impl.Store{Width: width, Texts: texts}) || !impl.ValidStore(impl.Store{Width: width, Texts: sorted}) {
			t.Errorf("width %d: the order of %q", width, sorted)
		}
		back := slices.Clone(sorted)
		slices.Reverse(back)
		for _, given := range [][]string{texts, sorted, back} {
			s := impl.Store{Width: width}
			for _, text := range given {
				s = mustPut(t, s, text)
			}
			if !slices.Equal(s.Texts, sorted) {
				t.Errorf("width %d: %q, not %q", width, s.Texts, sorted)
			}
		}
	}
	first, second := twoWithOneSum(t)
	if impl.ValidStore(storeOf(1, first, second)) || !impl.ValidStore(storeOf(8, first, second)) {
		t.Error("two texts with one sum")
	}
}

func mustPut(t *testing.T, s impl.Store, text string) impl.Store {
	t.Helper()
	kept := impl.PutText(s, text)
	if kept.Code != 0 || kept.A != "" || kept.B != "" {
		t.Fatalf("%s: %s", brief(text), brief(kept))
	}
	return kept.Store
}

func mustKeep(t *testing.T, s impl.Store, text string, want impl.Kept) {
	t.Helper()
	if got := impl.PutText(s, text); !sameKept(got, want) {
		t.Errorf("%s: %s, not %s", brief(text), brief(got), brief(want))
	}
}

// withSumOf gives texts of a size whose sum of one byte is that of a text.
func withSumOf(t *testing.T, text string, size int) string {
	for i := range 100000 {
		other := strconv.Itoa(i)
		other += long(size)[:size-len(other)]
		if other != text && impl.Sum(other, 1) == impl.Sum(text, 1) {
			return other
		}
	}
	t.Fatal("no other text has this sum")
	return ""
}

func TestPutTextCodes(t *testing.T) {
	for what, s := range wrongStores() {
		if kept := impl.PutText(s, "0:a"); !sameKept(kept, impl.Kept{Code: 1}) {
			t.Errorf("%s: %s", what, brief(kept))
		}
		for _, sum := range append([]string{"", long(max(0, min(s.Width, 9)))}, sumsOf(s)...) {
			if text, there := impl.GetText(s, sum); there || text != "" {
				t.Errorf("%s: %q is there", what, text)
			}
		}
	}
	first, second := twoWithOneSum(t)
	one := impl.Store{Width: 1, Texts: []string{first}, Records: recordsOf(2, 1)}
	mustKeep(t, one, second, impl.Kept{Code: 2, A: first, B: second})
	mustKeep(t, one, first, impl.Kept{Store: one})
	mustKeep(t, one, long(impl.MaxText+3), impl.Kept{Code: 1})
	mustKeep(t, impl.Store{Width: 1}, long(impl.MaxText+2), impl.Kept{Store: storeOf(1, long(impl.MaxText+2))})
	// A text that is too long is refused also where it has the sum of another.
	mustKeep(t, one, withSumOf(t, first, impl.MaxText+3), impl.Kept{Code: 1})
	same := withSumOf(t, first, impl.MaxText+2)
	mustKeep(t, one, same, impl.Kept{Code: 2, A: first, B: same})
}

// A store that is full takes what it has, and tells of a clash first.
func TestPutTextInAFullStore(t *testing.T) {
	last := "the last one"
	// A store of width 2 can be full and still let a clash be found with ease.
	var texts []string
	met := map[string]string{impl.Sum(last, 2): last}
	clashing := ""
	for i := 0; len(texts) < impl.MaxBlobs-1; i++ {
		text := "0:" + strconv.Itoa(i)
		if _, there := met[impl.Sum(text, 2)]; there {
			clashing = text
			continue
		}
		met[impl.Sum(text, 2)] = text
		texts = append(texts, text)
	}
	near := storeOf(2, texts...)
	near.Records = recordsOf(3, 2)
	full := mustPut(t, near, last)
	if len(full.Texts) != impl.MaxBlobs || !impl.ValidStore(full) {
		t.Fatalf("%d texts", len(full.Texts))
	}
	mustKeep(t, full, last, impl.Kept{Store: full})
	mustKeep(t, full, texts[0], impl.Kept{Store: full})
	mustKeep(t, full, clashing, impl.Kept{Code: 2, A: met[impl.Sum(clashing, 2)], B: clashing})
	mustKeep(t, full, long(impl.MaxText+3), impl.Kept{Code: 1})
	fresh := ""
	for i := 0; fresh == ""; i++ {
		if text := "new " + strconv.Itoa(i); met[impl.Sum(text, 2)] == "" {
			fresh = text
		}
	}
	mustKeep(t, full, fresh, impl.Kept{Code: 3})
	mustPut(t, near, fresh)
}

func sumsOf(s impl.Store) []string {
	var out []string
	for _, text := range s.Texts[:min(len(s.Texts), 3)] {
		out = append(out, impl.Sum(text, s.Width))
	}
	return out
}

// What was put is got, whatever is put behind it, and nothing else changes.
func TestPutAndGet(t *testing.T) {
	d := &dice{51}
	clashes := 0
	for round := range 200 {
		width := 1 + round%2*d.below(impl.MaxWidth) // half of them so small that clashes are met
		s := impl.Store{Width: width}
		for range d.below(4) {
			s.Records = append(s.Records, anyRecord(d, width))
		}
		put := map[string]string{} // by sums
		for range 40 {
			text := d.text(2)
			sum := impl.Sum(text, width)
			before, there := put[sum]
			given := copyStore(s)
			kept := impl.PutText(s, text)
			if !sameStores(s, given) {
				t.Fatal("the store was changed")
			}
			if there && before != text {
				clashes++
				if !sameKept(kept, impl.Kept{Code: 2, A: before, B: text}) {
					t.Fatalf("%q behind %q: %s", text, before, brief(kept))
				}
				continue
			}
			put[sum] = text
			mustHold(t, kept, put, given)
			s = kept.Store
		}
		mustHaveNothingElse(t, s, put)
	}
	if clashes < 100 {
		t.Errorf("only %d clashes", clashes)
	}
}

// mustHold holds a store against all that was put into it so far.
func mustHold(t *testing.T, kept impl.Kept, put map[string]string, before impl.Store) {
	t.Helper()
	s := kept.Store
	if kept.Code != 0 || kept.A != "" || kept.B != "" || !impl.ValidStore(s) || len(s.Texts) != len(put) {
		t.Fatalf("%s", brief(kept))
	}
	if s.Width != before.Width || !slices.EqualFunc(s.Records, before.Records, sameRecords) {
		t.Fatalf("more than the texts has changed: %s", brief(s))
	}
	for sum, text := range put {
		if got, there := impl.GetText(s, sum); !there || got != text {
			t.Fatalf("%q is got as %q %v", text, got, there)
		}
	}
}

func mustHaveNothingElse(t *testing.T, s impl.Store, put map[string]string) {
	t.Helper()
	for i := range 256 {
		sum := (string([]byte{byte(i)}) + long(8))[:s.Width]
		want, there := put[sum]
		if got, ok := impl.GetText(s, sum); ok != there || got != want {
			t.Fatalf("sum %q is got as %q %v", sum, got, ok)
		}
	}
}

func TestGetTextByOtherSums(t *testing.T) {
	s := storeOf(4, "", "0:a", "0:b", "1:")
	for _, text := range s.Texts {
		if got, there := impl.GetText(s, impl.Sum(text, 4)); !there || got != text {
			t.Errorf("%q: %q %v", text, got, there)
		}
		for _, sum := range []string{"", impl.Sum(text, 3), impl.Sum(text, 5), impl.Sum(text, 8), impl.Sum(text, 4) + "\x00", impl.Sum(text, 4)[:3], text, impl.Sum("0:c", 4)} {
			if got, there := impl.GetText(s, sum); there || got != "" {
				t.Errorf("%q: %q %v", sum, got, there)
			}
		}
	}
	if got, there := impl.GetText(impl.Store{Width: 4}, impl.Sum("", 4)); there || got != "" {
		t.Errorf("an empty store has %q", got)
	}
}

func TestStoresShareNothing(t *testing.T) {
	d := &dice{52}
	for _, text := range []string{"0:new", "0:a"} {
		s := storeOf(8, "0:a", "0:b", "0:c")
		s.Records = []impl.Record{anyRecord(d, 8), recordOf(8, glances(3, 8)...), recordOf(8, glances(2, 8)...), recordOf(8)}
		s.Texts = slices.Grow(s.Texts, 5) // room in which nothing may be put
		given := copyStore(s)
		kept := impl.PutText(s, text)
		want := copyStore(kept.Store)
		if behind := s.Texts[:len(s.Texts)+1][len(s.Texts)]; behind != "" {
			t.Errorf("%q was put behind the argument", behind)
		}
		spoilStore(s)
		if !sameStores(kept.Store, want) {
			t.Error("the answer shares memory with the argument")
		}
		s = copyStore(given)
		again := impl.PutText(s, text)
		mustBeApart(t, text, again.Store)
		spoilStore(again.Store)
		if !sameStores(s, given) || !sameStores(kept.Store, want) {
			t.Error("the answer shares memory with the argument or another answer")
		}
	}
}

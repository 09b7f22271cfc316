package tests

import (
	"slices"
	"strconv"
	"testing"

	"loop.example/kilntrace/impl"
)

// storeOf gives a store of these texts, in the order of their sums; a text that
// is given twice is there once.
func storeOf(width int, texts ...string) impl.Store {
	return impl.Store{Width: width, Texts: bySums(width, texts)}
}

func bySums(width int, texts []string) []string {
	out := slices.Clone(texts)
	slices.SortFunc(out, func(a, b string) int {
		if c := order(impl.Sum(a, width), impl.Sum(b, width)); c != 0 {
			return c
		}
		return order(a, b)
	})
	return slices.Compact(out)
}

// numbered gives n short texts, all different.
func numbered(n int) []string {
	var out []string
	for i := range n {
		out = append(out, "0:"+strconv.Itoa(i))
	}
	return out
}

// askedSum and hasSum are looks of a record.
func askedSum(name, sum string) impl.Glance { return impl.Glance{Name: name, Ask: true, Sum: sum} }

func hasSum(name, sum string) impl.Glance { return impl.Glance{Name: name, Sum: sum} }

// glanceOf gives the look of a record for what was seen.
func glanceOf(seen impl.Seen, width int) impl.Glance {
	return impl.Glance{Name: seen.Name, Ask: seen.Ask, Sum: impl.Sum(seen.Said, width)}
}

func copyRecord(r impl.Record) impl.Record {
	return impl.Record{Action: copyOf(r.Action), Looks: append([]impl.Glance(nil), r.Looks...), Out: r.Out}
}

func copyStore(s impl.Store) impl.Store {
	out := impl.Store{Width: s.Width, Texts: append([]string(nil), s.Texts...)}
	for _, r := range s.Records {
		out.Records = append(out.Records, copyRecord(r))
	}
	return out
}

func sameRecords(a, b impl.Record) bool {
	return samePrograms(a.Action, b.Action) && slices.Equal(a.Looks, b.Looks) && a.Out == b.Out
}

func sameStores(a, b impl.Store) bool {
	return a.Width == b.Width && slices.Equal(a.Texts, b.Texts) && slices.EqualFunc(a.Records, b.Records, sameRecords)
}

func sameKept(a, b impl.Kept) bool {
	return a.Code == b.Code && sameStores(a.Store, b.Store) && a.A == b.A && a.B == b.B
}

// spoilRecord writes over everything that can be written to in a record, also
// behind the ends of its lists.
func spoilRecord(r impl.Record) {
	for i := range r.Action.Code[:cap(r.Action.Code)] {
		r.Action.Code[:cap(r.Action.Code)][i] = lit("!spoilt")
	}
	for i := range r.Looks[:cap(r.Looks)] {
		r.Looks[:cap(r.Looks)][i] = hasSum("!spoilt", "!")
	}
}

func spoilStore(s impl.Store) {
	for i := range s.Texts[:cap(s.Texts)] {
		s.Texts[:cap(s.Texts)][i] = "!spoilt"
	}
	for _, r := range s.Records {
		spoilRecord(r)
	}
	for i := range s.Records[:cap(s.Records)] {
		s.Records[:cap(s.Records)][i] = impl.Record{Out: "!spoilt"}
	}
}

// mustBeApart writes over each record of a store alone, to the end of its room,
// and asks that nothing else is changed by this.
func mustBeApart(t *testing.T, what string, s impl.Store) {
	t.Helper()
	for i := range s.Records {
		left := copyStore(s)
		spoilRecord(s.Records[i])
		left.Records[i] = copyRecord(s.Records[i])
		if !sameStores(s, left) {
			t.Errorf("%s: record %d shares memory with another list", what, i)
		}
	}
}

// anyRecord gives a record that a valid store of this width may hold, but that
// is mostly not that of a run.
func anyRecord(d *dice, width int) impl.Record {
	r := impl.Record{Action: anyProgram(d), Out: impl.Sum(d.text(3), width)}
	for range d.below(4) {
		r.Looks = append(r.Looks, impl.Glance{Name: d.pick("a", "b", "c"), Ask: d.below(2) == 0, Sum: impl.Sum(d.text(3), width)})
	}
	return r
}

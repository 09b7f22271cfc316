package tests

import (
	"iter"
	"slices"
	"strconv"
	"strings"
	"testing"

	"loop.example/kilntrace/impl"
)

func sameBuilt(a, b impl.Built) bool {
	return sameResults(resultOf(a), resultOf(b)) && sameStores(a.Store, b.Store) &&
		slices.Equal(a.Ran, b.Ran) && slices.Equal(a.Held, b.Held) && a.A == b.A && a.B == b.B
}

func resultOf(b impl.Built) impl.Result {
	return impl.Result{Code: b.Code, Text: b.Text, Chain: b.Chain}
}

// tell tells a build without its store.
func tell(b impl.Built) string {
	texts, records := len(b.Store.Texts), len(b.Store.Records)
	b.Store = impl.Store{Width: b.Store.Width}
	return brief(b) + " " + brief([]int{texts, records})
}

func builtOf(r impl.Result, s impl.Store) impl.Built {
	return impl.Built{Code: r.Code, Text: r.Text, Chain: r.Chain, Store: s}
}

// mustBuild builds a name, asks for the result, what was run and what was held,
// and gives the store.
func mustBuild(t *testing.T, s impl.Store, sp impl.Space, name string, want impl.Result, ran, held string) impl.Store {
	t.Helper()
	given, givenSpace := copyStore(s), copySpace(sp)
	b := impl.Build(s, sp, name)
	if !sameResults(resultOf(b), want) || !slices.Equal(b.Ran, strings.Fields(ran)) || !slices.Equal(b.Held, strings.Fields(held)) || b.A != "" || b.B != "" {
		t.Errorf("%s: %s, not %s, ran %q, held %q", name, tell(b), brief(want), ran, held)
	}
	if b.Code > impl.Below && !sameStores(b.Store, s) {
		t.Errorf("%s: code %d, but the store is %s", name, b.Code, brief(b.Store))
	}
	if !sameStores(s, given) || !sameSpaces(sp, givenSpace) {
		t.Errorf("%s: an argument was changed", name)
	}
	sorted := strings.Fields(ran)
	slices.Sort(sorted)
	if stale := impl.Stale(s, sp, name); !slices.Equal(stale, sorted) {
		t.Errorf("%s: stale is %q, not %q", name, stale, sorted)
	}
	return b.Store
}

// mustEnd asks for a build that keeps nothing.
func mustEnd(t *testing.T, s impl.Store, sp impl.Space, name string, want impl.Built) {
	t.Helper()
	want.Store = s
	given := copyStore(s)
	if got := impl.Build(s, sp, name); !sameBuilt(got, want) {
		t.Errorf("%s: %s, not %s", name, tell(got), tell(want))
	}
	if got := impl.BuildAll(s, sp, []string{name}); !sameBuilt(got, want) {
		t.Errorf("all of %s: %s, not %s", name, tell(got), tell(want))
	}
	if stale := impl.Stale(s, sp, name); len(stale) > 0 {
		t.Errorf("%s: stale is %q", name, stale)
	}
	if !sameStores(s, given) {
		t.Errorf("%s: the store was changed", name)
	}
}

// withRun gives the store with the texts and the record of a target's run in a
// space; the store as it is if there is no such run or a text has no place.
func withRun(s impl.Store, sp impl.Space, name string) impl.Store {
	looks, r := impl.Trail(sp, name)
	_, made, _ := thingOf(sp, name)
	if made.Name == "" || r.Code > impl.Below {
		return s
	}
	out := copyStore(s)
	for _, text := range neededBy(looks, r) {
		kept := impl.PutText(out, text)
		if kept.Code != 0 {
			return s
		}
		out = kept.Store
	}
	out.Records = append(out.Records, impl.Note(made.Action, looks, r, s.Width))
	return out
}

// world is what the spaces and stores of a test are made of.
type world struct {
	*dice
	width int
	texts []string
}

// worlds gives some worlds: of every width, and of the smallest ones with few
// texts but those whose forms have a sum in common.
func worlds(d *dice) []world {
	var out []world
	for width := 1; width <= impl.MaxWidth; width++ {
		out = append(out, world{d, width, []string{"a", "b c", "0", "", "g f", "x", "d\ne", "b d", "g"}})
		if width <= 2 {
			clashing := world{d, width, append(textsOfOneSum(width, "0:a"), append(textsOfOneSum(width, "0:1"), "g f")...)}
			out = append(out, clashing, clashing, clashing)
		}
	}
	return out
}

// textsOfOneSum gives texts whose forms have one sum, that of a form.
func textsOfOneSum(width int, form string) []string {
	out := []string{form[2:]}
	for i := 0; len(out) < 4; i++ {
		if text := "c " + strconv.Itoa(i); impl.Sum("0:"+text, width) == impl.Sum(form, width) {
			out = append(out, text)
		}
	}
	return out
}

// space gives a space of this world.
func (w world) space() impl.Space {
	sp := anySpace(w.dice)
	for i := range sp.Sources {
		sp.Sources[i].Text = w.pick(w.texts...)
	}
	return sp
}

// variant gives a space in which a thing or two are others.
func (w world) variant(sp impl.Space) impl.Space {
	for range 1 + w.below(2) {
		name := fewNames[w.below(7)]
		switch w.below(9) {
		case 0:
			if without, code := impl.Drop(sp, name); code == 0 {
				sp = without
			}
		case 1:
			sp, _ = impl.PutTarget(sp, name, builtProgram(w.dice, name))
		case 2: // two targets with one action
			if len(sp.Targets) > 0 {
				sp, _ = impl.PutTarget(sp, name, sp.Targets[w.below(len(sp.Targets))].Action)
			}
		default:
			if n := len(sp.Sources); n > 0 && w.below(3) > 0 {
				name = sp.Sources[w.below(n)].Name
			}
			sp, _ = impl.PutSource(sp, name, w.pick(w.texts...))
		}
	}
	return sp
}

// vouched gives a store of records of runs, in the space and in others that are
// near to it.
func (w world) vouched(sp impl.Space) impl.Store {
	s := impl.Store{Width: w.width}
	for range w.below(4) {
		if w.below(3) > 0 {
			sp = w.variant(sp)
		}
		for _, target := range sp.Targets {
			if w.below(3) > 0 {
				s = withRun(s, sp, target.Name)
			}
		}
	}
	w.shuffle(s.Records)
	return s
}

func (d *dice) shuffle(records []impl.Record) {
	for i := range records {
		j := d.below(i + 1)
		records[i], records[j] = records[j], records[i]
	}
}

// lying gives a valid store whose records are near to those of runs, but lie in
// many ways.
func (w world) lying(sp impl.Space) impl.Store {
	s := w.vouched(sp)
	if n := len(s.Records); n > 0 {
		s.Records = append(s.Records, copyRecord(s.Records[w.below(n)]))
	}
	for i := range s.Records {
		r := &s.Records[i]
		switch w.below(6) {
		case 0:
			bend(w.dice, *r, w.width)
		case 1:
			r.Looks = r.Looks[:w.below(len(r.Looks)+1)]
		case 2:
			r.Out = impl.Sum(w.pick("0:lie", "1:lie", "4:a", "0", "no form", "0:a", "5:b"), w.width)
		case 3:
			r.Looks = append(r.Looks[:min(len(r.Looks), 3)], askedSum(w.pick(fewNames...), r.Out))
		}
	}
	for range w.below(3) {
		if kept := impl.PutText(s, w.pick("0:lie", "1:lie", "4:a", "no form", "1", "0:a")); kept.Code == 0 {
			s = kept.Store
		}
		if n := len(s.Texts); n > 0 && w.below(3) == 0 {
			i := w.below(n)
			s.Texts = slices.Delete(s.Texts, i, i+1)
		}
	}
	return s
}

// mixed gives a store of either kind.
func (w world) mixed(sp impl.Space) impl.Store {
	if w.below(4) == 0 {
		return w.vouched(sp)
	}
	return w.lying(sp)
}

// inWorlds ranges over stores of one kind, each with a space that is near to
// those of its records.
func inWorlds(d *dice, rounds int, kind func(world, impl.Space) impl.Store) iter.Seq2[impl.Store, impl.Space] {
	return func(yield func(impl.Store, impl.Space) bool) {
		all := worlds(d)
		for round := range rounds {
			w := all[round%len(all)]
			sp := w.space()
			s := kind(w, sp)
			if !yield(s, w.variant(sp)) {
				return
			}
		}
	}
}

// allVouched says whether all records of a store are vouched for.
func allVouched(s impl.Store) bool {
	for _, r := range s.Records {
		if impl.Vouch(s, r) != 0 {
			return false
		}
	}
	return true
}

// slowBuild is a build as the document tells it: nothing is known but what the
// store says, and each text is put by PutText.
type slowBuild struct {
	sp        impl.Space
	store     impl.Store
	made      map[string]impl.Result
	path      []string
	ran, held []string
	// used has the places of the records that held or were put.
	used []int
	// end is why all has ended, if it has.
	end impl.Built
}

func slowly(s impl.Store, sp impl.Space, name string) impl.Built {
	built, _ := slowlyUsed(s, sp, name)
	return built
}

// slowlyUsed also tells the places of the records that held or were put.
func slowlyUsed(s impl.Store, sp impl.Space, name string) (impl.Built, []int) {
	b := &slowBuild{sp: sp, store: copyStore(s), made: map[string]impl.Result{}}
	r, ok := b.lies(name)
	if !ok {
		b.end.Store = s
		return b.end, nil
	}
	return impl.Built{Code: r.Code, Text: r.Text, Store: b.store, Ran: b.ran, Held: b.held}, b.used
}

func (b *slowBuild) stop(end impl.Built) (impl.Result, bool) {
	b.end = end
	return impl.Result{}, false
}

func (b *slowBuild) lies(name string) (impl.Result, bool) {
	if r, made := b.made[name]; made {
		return r, true
	}
	given, of, there := thingOf(b.sp, name)
	if !there {
		return ended(impl.Missing, name), true
	}
	if given.Name != "" {
		return done(given.Text), true
	}
	if i := slices.Index(b.path, name); i >= 0 {
		return b.stop(impl.Built{Code: impl.Circle, Chain: slices.Clone(b.path[i:])})
	}
	if len(b.path) >= impl.MaxDepth {
		return b.stop(impl.Built{Code: impl.Deep, Text: name})
	}
	b.path = append(b.path, name)
	r, ok := b.target(of)
	b.path = b.path[:len(b.path)-1]
	b.made[name] = r
	return r, ok
}

func (b *slowBuild) target(of impl.Target) (impl.Result, bool) {
	for i, r := range copyStore(b.store).Records {
		text, there := impl.GetText(b.store, r.Out)
		result, read := impl.ReadResult(text)
		if !samePrograms(r.Action, of.Action) || !there || !read {
			continue
		}
		holds, ok := b.try(r)
		if !ok {
			return impl.Result{}, false
		}
		if holds {
			b.held, b.used = append(b.held, of.Name), append(b.used, i)
			return result, true
		}
	}
	return b.run(of)
}

func (b *slowBuild) try(r impl.Record) (bool, bool) {
	for _, glance := range r.Looks {
		said, ok := b.said(glance.Name, glance.Ask)
		if !ok || impl.Sum(said, b.store.Width) != glance.Sum {
			return false, ok
		}
	}
	return true, true
}

func (b *slowBuild) said(name string, ask bool) (string, bool) {
	if !ask {
		_, _, there := thingOf(b.sp, name)
		return oneOrZero(there), true
	}
	r, ok := b.lies(name)
	return impl.FormResult(r), ok
}

func (b *slowBuild) run(of impl.Target) (impl.Result, bool) {
	var replies []impl.Reply
	var looks []impl.Seen
	turn := impl.Next(of.Action, nil)
	for !turn.Over {
		said, ok := b.said(turn.Name, turn.Ask)
		if !ok {
			return impl.Result{}, false
		}
		r, _ := impl.ReadResult(said)
		_, _, there := thingOf(b.sp, turn.Name)
		replies = append(replies, impl.Reply{Has: there, Code: r.Code, Text: r.Text})
		looks = append(looks, impl.Seen{Name: turn.Name, Ask: turn.Ask, Said: said})
		turn = impl.Next(of.Action, replies)
	}
	r := ended(turn.Code, turn.Text)
	for _, text := range neededBy(looks, r) {
		kept := impl.PutText(b.store, text)
		switch kept.Code {
		case 2:
			return b.stop(impl.Built{Code: impl.Clashed, A: kept.A, B: kept.B})
		case 3:
			return b.stop(impl.Built{Code: impl.Full})
		}
		b.store = kept.Store
	}
	if len(b.store.Records) == impl.MaxRecs {
		return b.stop(impl.Built{Code: impl.Full})
	}
	b.ran, b.used = append(b.ran, of.Name), append(b.used, len(b.store.Records))
	b.store.Records = append(b.store.Records, impl.Note(of.Action, looks, r, b.store.Width))
	return r, true
}

// doubtOf is Doubt for what is valid: the first clash among the texts of the
// store, 1 and 0, and what the reference of Clean makes.
func doubtOf(s impl.Store, sp impl.Space, name string) (string, string, bool) {
	ref := referenceFor(sp)
	ref.lies(name)
	texts := append(slices.Clone(s.Texts), "1", "0")
	for _, asked := range ref.asked {
		if r, made := ref.made[asked]; made {
			texts = append(texts, impl.FormResult(r))
		}
	}
	return firstClash(texts, s.Width)
}

// mustDoubt asks for the two texts that Doubt shows; none if there are none.
func mustDoubt(t *testing.T, s impl.Store, sp impl.Space, name, a, b string) {
	t.Helper()
	given, givenSpace := copyStore(s), copySpace(sp)
	x, y, ok := impl.Doubt(s, sp, name)
	if x != a || y != b || ok != (a != b) {
		t.Errorf("%s: doubt %s %s %v, not %s %s", name, brief(x), brief(y), ok, brief(a), brief(b))
	}
	if !sameStores(s, given) || !sameSpaces(sp, givenSpace) {
		t.Errorf("%s: an argument was changed", name)
	}
}

func doubted(s impl.Store, sp impl.Space, name string) bool {
	_, _, ok := impl.Doubt(s, sp, name)
	return ok
}

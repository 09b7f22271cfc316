package tests

import (
	"math"
	"strconv"
	"strings"
	"testing"

	"loop.example/kilntrace/impl"
)

func over(code int, text string, steps int) impl.Turn {
	return impl.Turn{Over: true, Code: code, Text: text, Steps: steps}
}

func said(text string) impl.Reply { return impl.Reply{Has: true, Text: text} }

func mustTurn(t *testing.T, p impl.Program, replies []impl.Reply, want impl.Turn) {
	t.Helper()
	if got := impl.Next(p, replies); got != want {
		t.Errorf("%s with %d replies: %s, not %s", brief(p), len(replies), brief(got), brief(want))
	}
}

func TestWhatInstructionsPut(t *testing.T) {
	for _, c := range []struct {
		given []string
		ins   impl.Ins
		top   string
	}{
		{nil, lit(""), ""},
		{nil, lit(long(impl.MaxText)), long(impl.MaxText)},
		{[]string{"ab", "c"}, op(impl.OpCat), "abc"},
		{[]string{"", ""}, op(impl.OpCat), ""},
		{[]string{long(1000), long(1000)}, op(impl.OpCat), long(2000)},
		{[]string{"abc"}, opN(impl.OpCut, 0), ""},
		{[]string{"abc"}, opN(impl.OpCut, 2), "ab"},
		{[]string{"abc"}, opN(impl.OpCut, 3), "abc"},
		{[]string{"abc"}, opN(impl.OpCut, 4), "abc"},
		{[]string{"abc"}, opN(impl.OpCut, impl.MaxText), "abc"},
		{[]string{"\xc3\xa4"}, opN(impl.OpCut, 1), "\xc3"},
		{[]string{"abc"}, opN(impl.OpRest, 0), "abc"},
		{[]string{"abc"}, opN(impl.OpRest, 2), "c"},
		{[]string{"abc"}, opN(impl.OpRest, 3), ""},
		{[]string{"abc"}, opN(impl.OpRest, impl.MaxText), ""},
		{[]string{"\xc3\xa4"}, opN(impl.OpRest, 1), "\xa4"},
		{[]string{""}, opN(impl.OpWord, 0), ""},
		{[]string{" \n "}, opN(impl.OpWord, 0), ""},
		{[]string{"ab"}, opN(impl.OpWord, 0), "ab"},
		{[]string{"ab"}, opN(impl.OpWord, 1), ""},
		{[]string{"a b\nc"}, opN(impl.OpWord, 1), "b"},
		{[]string{"\n a\n\n  b c "}, opN(impl.OpWord, 2), "c"},
		{[]string{"a b "}, opN(impl.OpWord, 2), ""},
		{[]string{"a\tb\rc\x00d\xa0e f"}, opN(impl.OpWord, 0), "a\tb\rc\x00d\xa0e"},
		{[]string{"a", "a"}, op(impl.OpSame), "1"},
		{[]string{"a", "b"}, op(impl.OpSame), "0"},
		{[]string{"", ""}, op(impl.OpSame), "1"},
		{[]string{"a"}, op(impl.OpDup), "a"},
		{[]string{"a", "b"}, op(impl.OpSwap), "a"},
		{[]string{"a", "b"}, op(impl.OpDrop), "a"},
	} {
		var code []impl.Ins
		for _, text := range c.given {
			code = append(code, lit(text))
		}
		code = append(code, c.ins)
		mustTurn(t, chain(code, several(1, op(impl.OpEnd))), nil, over(impl.Done, c.top, len(code)+1))
		mustTurn(t, chain(code, several(1, op(impl.OpFail))), nil, over(impl.Failed, c.top, len(code)+1))
	}
}

// What is below the top behind an instruction.
func TestWhatIsLeftBelow(t *testing.T) {
	drop, cat, end := op(impl.OpDrop), op(impl.OpCat), op(impl.OpEnd)
	mustTurn(t, program(lit("z"), lit("a"), lit("b"), op(impl.OpSwap), cat, cat, end), nil, over(impl.Done, "zba", 7))
	mustTurn(t, program(lit("z"), lit("a"), op(impl.OpDup), cat, cat, end), nil, over(impl.Done, "zaa", 6))
	mustTurn(t, program(lit("z"), lit("a"), lit("b"), op(impl.OpSame), drop, end), nil, over(impl.Done, "z", 6))
	mustTurn(t, program(lit("z"), lit("a"), opN(impl.OpUnless, 3), end), nil, over(impl.Done, "z", 4))
	mustTurn(t, program(lit("z"), lit("a"), op(impl.OpHas), cat, end), []impl.Reply{said("")}, over(impl.Done, "z1", 5))
	mustTurn(t, program(lit("z"), lit("a"), op(impl.OpAsk), cat, end), []impl.Reply{said("b")}, over(impl.Done, "zb", 5))
}

func TestJumps(t *testing.T) {
	end := op(impl.OpEnd)
	mustTurn(t, program(opN(impl.OpJump, 3), lit("n"), end, lit("y"), end), nil, over(impl.Done, "y", 3))
	mustTurn(t, program(opN(impl.OpJump, 1)), nil, over(impl.Stuck, "1", 1))
	mustTurn(t, program(opN(impl.OpJump, impl.MaxIns)), nil, over(impl.Stuck, "200", 1))
	mustTurn(t, chain(several(1, opN(impl.OpJump, 199)), several(198, end), several(1, lit("a"))), nil, over(impl.Stuck, "200", 2))
	for text, led := range map[string]bool{"": true, "0": true, "1": false, "00": false, " ": false, "0\n": false, "\x00": false} {
		want := "on"
		if led {
			want = "led"
		}
		p := program(lit(text), opN(impl.OpUnless, 4), lit("on"), end, lit("led"), end)
		mustTurn(t, p, nil, over(impl.Done, want, 4))
	}
	mustTurn(t, program(lit(""), opN(impl.OpUnless, 7)), nil, over(impl.Stuck, "7", 2))
	mustTurn(t, program(lit("1"), opN(impl.OpUnless, 7)), nil, over(impl.Stuck, "2", 2))
}

func TestTooFewTexts(t *testing.T) {
	needs := map[int]int{impl.OpCat: 2, impl.OpCut: 1, impl.OpRest: 1, impl.OpWord: 1, impl.OpSame: 2, impl.OpDup: 1, impl.OpSwap: 2,
		impl.OpDrop: 1, impl.OpUnless: 1, impl.OpAsk: 1, impl.OpHas: 1, impl.OpFail: 1, impl.OpEnd: 1}
	replies := []impl.Reply{said("r")}
	for code, need := range needs {
		for n := range need {
			p := chain(several(n, lit("a")), several(1, op(code)), several(1, op(impl.OpEnd)))
			mustTurn(t, p, replies, over(impl.Stuck, strconv.Itoa(n), n+1))
		}
		p := chain(several(need, lit("a")), several(1, op(code)), several(1, op(impl.OpEnd)))
		if got := impl.Next(p, replies); got.Code == impl.Stuck && got.Text == strconv.Itoa(need) {
			t.Errorf("%s with %d texts is stuck", opWords[code], need)
		}
	}
}

func TestFullStack(t *testing.T) {
	full, end := several(impl.MaxStack, lit("a")), several(1, op(impl.OpEnd))
	mustTurn(t, chain(full, end), nil, over(impl.Done, "a", 51))
	mustTurn(t, chain(full, several(1, lit("b")), end), nil, over(impl.Stuck, "50", 51))
	mustTurn(t, chain(full, several(1, op(impl.OpDup)), end), nil, over(impl.Stuck, "50", 51))
	mustTurn(t, chain(full[1:], several(1, op(impl.OpDup)), end), nil, over(impl.Done, "a", 51))
	for code, top := range map[int]string{impl.OpCat: "aa", impl.OpSwap: "a", impl.OpSame: "1", impl.OpRest: "a", impl.OpWord: "a", impl.OpHas: "1", impl.OpAsk: "r"} {
		mustTurn(t, chain(full, several(1, op(code)), end), []impl.Reply{said("r")}, over(impl.Done, top, 52))
	}
}

func TestTextsTooLong(t *testing.T) {
	end := op(impl.OpEnd)
	mustTurn(t, program(lit(long(1000)), lit(long(1001)), op(impl.OpCat), end), nil, over(impl.Stuck, "2", 3))
	mustTurn(t, program(lit("a"), op(impl.OpAsk), lit("b"), op(impl.OpCat), end), []impl.Reply{said(long(impl.MaxText))}, over(impl.Stuck, "3", 4))
	mustTurn(t, program(lit("a"), op(impl.OpAsk), end), []impl.Reply{said(long(impl.MaxText))}, over(impl.Done, long(impl.MaxText), 3))
}

func TestNames(t *testing.T) {
	for _, code := range []int{impl.OpAsk, impl.OpHas} {
		for _, name := range []string{"a", "!", "~", "a/b.c", "\"", "\\", long(impl.MaxName)} {
			mustTurn(t, program(lit(name), op(code)), nil, impl.Turn{Ask: code == impl.OpAsk, Name: name, Steps: 2})
		}
		for _, name := range []string{"", " ", "a b", "a\n", "\x1f", "\x7f", "\x80", "\xff", "\xc3\xa4", long(impl.MaxName + 1)} {
			mustTurn(t, program(lit(name), op(code)), []impl.Reply{said("")}, over(impl.Stuck, "1", 2))
		}
	}
}

func TestRepliesToLooks(t *testing.T) {
	ask := program(lit("a"), op(impl.OpAsk), op(impl.OpEnd))
	has := program(lit("a"), op(impl.OpHas), op(impl.OpEnd))
	for code := range 8 {
		want := over(impl.Below, "a", 2)
		if code == impl.Done {
			want = over(impl.Done, "x", 3)
		}
		mustTurn(t, ask, []impl.Reply{{Has: true, Code: code, Text: "x"}}, want)
		mustTurn(t, ask, []impl.Reply{{Code: code, Text: "x"}}, over(impl.Missing, "a", 2))
		mustTurn(t, has, []impl.Reply{{Has: true, Code: code, Text: "x"}}, over(impl.Done, "1", 3))
		mustTurn(t, has, []impl.Reply{{Code: code, Text: "x"}}, over(impl.Done, "0", 3))
	}
}

// counting gives a run that has come to place 5 with 1999 steps and one empty
// text on its stack.
func counting(tail ...impl.Ins) impl.Program {
	loop := []impl.Ins{lit(long(499)), op(impl.OpDup), opN(impl.OpUnless, 5), opN(impl.OpRest, 1), opN(impl.OpJump, 1)}
	return chain(loop, tail)
}

func TestMaxSteps(t *testing.T) {
	end, drop := op(impl.OpEnd), op(impl.OpDrop)
	spent := over(impl.Spent, "", impl.MaxSteps)
	mustTurn(t, counting(end), nil, over(impl.Done, "", impl.MaxSteps))
	mustTurn(t, counting(op(impl.OpFail)), nil, over(impl.Failed, "", impl.MaxSteps))
	mustTurn(t, counting(opN(impl.OpCut, 1), end), nil, spent)
	// Stuck at the last step; stuck where no step is begun behind it.
	mustTurn(t, counting(op(impl.OpCat)), nil, over(impl.Stuck, "5", impl.MaxSteps))
	mustTurn(t, counting(drop), nil, over(impl.Stuck, "6", impl.MaxSteps))
	mustTurn(t, counting(opN(impl.OpJump, 99)), nil, over(impl.Stuck, "99", impl.MaxSteps))
	// One step too many comes ahead of too few texts and of a look.
	mustTurn(t, counting(drop, op(impl.OpCat)), nil, spent)
	mustTurn(t, counting(lit("a"), op(impl.OpAsk)), nil, spent)
	mustTurn(t, counting(lit("a"), op(impl.OpHas)), []impl.Reply{said("")}, spent)
}

// A look may be the last step, and the step behind its reply one too many.
func TestMaxStepsAtALook(t *testing.T) {
	loop := []impl.Ins{lit("a"), lit(long(498)), op(impl.OpDup), opN(impl.OpUnless, 6), opN(impl.OpRest, 1), opN(impl.OpJump, 2)}
	tail := []impl.Ins{op(impl.OpDrop), opN(impl.OpJump, 8), opN(impl.OpCut, 9), op(impl.OpAsk), op(impl.OpEnd)}
	// 2 + 4 * 498 + 2 steps to place 6, and 3 more to the look.
	mustTurn(t, chain(loop, tail), nil, impl.Turn{Ask: true, Name: "a", Steps: 2000})
	mustTurn(t, chain(loop, tail), []impl.Reply{said("x")}, over(impl.Spent, "", 2000))
	mustTurn(t, chain(loop, tail), []impl.Reply{{}}, over(impl.Missing, "a", 2000))
	mustTurn(t, chain(loop, tail[:4]), []impl.Reply{said("x")}, over(impl.Stuck, "10", 2000))
}

func repliesThen(n int, r, last impl.Reply) []impl.Reply {
	out := make([]impl.Reply, n)
	for i := range out {
		out[i] = r
	}
	return append(out, last)
}

func TestMaxLooks(t *testing.T) {
	asking := program(lit("a"), op(impl.OpAsk), opN(impl.OpUnless, 4), opN(impl.OpJump, 0), lit("d"), op(impl.OpEnd))
	mustTurn(t, asking, repliesThen(199, said("x"), said("0")), over(impl.Done, "d", 801))
	mustTurn(t, asking, repliesThen(199, said("x"), said("x")), over(impl.Spent, "", 802))
	mustTurn(t, asking, repliesThen(198, said("x"), said("x")), impl.Turn{Ask: true, Name: "a", Steps: 798})
	mustTurn(t, asking, repliesThen(199, said("x"), impl.Reply{}), over(impl.Missing, "a", 798))
	mustTurn(t, asking, repliesThen(200, said("x"), said("x")), impl.Turn{Code: 9})

	// One look too many comes ahead of its reply, but only where there is a name.
	following := program(lit("a"), op(impl.OpAsk), opN(impl.OpJump, 1))
	mustTurn(t, following, repliesThen(199, said("a"), said("b")), over(impl.Spent, "", 402))
	mustTurn(t, following, repliesThen(199, said("a"), said("b c")), over(impl.Stuck, "1", 402))

	both := chain(several(1, lit("a")), several(199, op(impl.OpHas)))
	mustTurn(t, both, make([]impl.Reply, 199), over(impl.Stuck, "200", 200))
}

func TestWhatNextRefuses(t *testing.T) {
	good := program(lit("x"), op(impl.OpEnd))
	refused := impl.Turn{Code: impl.NotValid}
	for _, bad := range []impl.Reply{{Code: 8}, {Code: -1}, {Code: math.MaxInt}, {Code: math.MinInt}, {Text: long(impl.MaxText + 1)}, {Has: true, Text: long(impl.MaxText + 1)}} {
		// Also where it would play no part.
		mustTurn(t, good, []impl.Reply{bad}, refused)
		mustTurn(t, good, []impl.Reply{said("a"), bad}, refused)
		mustTurn(t, good, []impl.Reply{bad, said("a")}, refused)
	}
	mustTurn(t, good, []impl.Reply{{Code: 7, Text: long(impl.MaxText)}}, over(impl.Done, "x", 2))
	mustTurn(t, good, make([]impl.Reply, impl.MaxLooks), over(impl.Done, "x", 2))
	mustTurn(t, good, make([]impl.Reply, impl.MaxLooks+1), refused)
	for _, bad := range []impl.Program{{}, program(op(0)), program(op(16)), program(op(impl.OpEnd), opN(impl.OpEnd, 1)), chain(several(impl.MaxIns+1, op(impl.OpEnd)))} {
		mustTurn(t, bad, nil, refused)
		mustTurn(t, bad, []impl.Reply{said("a")}, refused)
	}
}

// lookingProgram gives a program that is likely to look and to go far.
func lookingProgram(d *dice) impl.Program {
	size := 4 + d.below(14)
	code := []impl.Ins{lit(d.pick("a", "b c", "0", ""))}
	for len(code) < size {
		switch d.below(9) {
		case 0, 1:
			code = append(code, lit(d.pick("a", "b", "c d", "0", "", "x y z")))
		case 2:
			code = append(code, lit(d.pick("a", "b", "c")), op(impl.OpAsk))
		case 3:
			code = append(code, op(impl.OpDup), op(impl.OpHas), opN(impl.OpUnless, d.below(size+1)))
		case 4:
			code = append(code, opN(impl.OpWord, d.below(3)), op(impl.OpAsk))
		case 5:
			code = append(code, opN(impl.OpJump+d.below(2), d.below(size+1)))
		case 6:
			code = append(code, opN(impl.OpCut+d.below(2), d.below(3)))
		case 7:
			code = append(code, op([]int{impl.OpCat, impl.OpSame, impl.OpSwap, impl.OpDrop}[d.below(4)]))
		default:
			code = append(code, op([]int{impl.OpDup, impl.OpAsk, impl.OpHas, impl.OpFail, impl.OpEnd}[d.below(5)]))
		}
	}
	return program(code...)
}

func lookingReplies(d *dice) []impl.Reply {
	out := make([]impl.Reply, impl.MaxLooks)
	for i := range out {
		out[i] = impl.Reply{Has: d.below(40) > 0, Text: d.pick("a", "b c", "a b", "", "0", "x", "c d e")}
		if d.below(40) == 0 {
			out[i].Code = d.below(8)
		}
	}
	return out
}

func oneOrZero(yes bool) string {
	if yes {
		return "1"
	}
	return "0"
}

// takenBy is how many texts an instruction takes.
func takenBy(code int) int {
	switch code {
	case impl.OpLit, impl.OpJump:
		return 0
	case impl.OpCat, impl.OpSame, impl.OpSwap:
		return 2
	}
	return 1
}

// putBy is what an instruction puts that neither looks nor jumps.
func putBy(ins impl.Ins, args []string) []string {
	switch ins.Op {
	case impl.OpLit:
		return []string{ins.Text}
	case impl.OpCat:
		return []string{strings.Join(args, "")}
	case impl.OpCut:
		return []string{string([]byte(args[0])[:min(ins.N, len(args[0]))])}
	case impl.OpRest:
		return []string{string([]byte(args[0])[min(ins.N, len(args[0])):])}
	case impl.OpWord:
		words := strings.FieldsFunc(args[0], func(r rune) bool { return r == 32 || r == 10 })
		return []string{append(words, make([]string, ins.N+1)...)[ins.N]}
	case impl.OpSame:
		return []string{oneOrZero(args[0] == args[1])}
	case impl.OpDup:
		return []string{args[0], args[0]}
	case impl.OpSwap:
		return []string{args[1], args[0]}
	}
	return nil
}

func isName(text string) bool {
	return len(text) >= 1 && len(text) <= 60 && !strings.ContainsFunc(text, func(r rune) bool { return r < 33 || r > 126 })
}

// endOf is how a run ends at an instruction that has its texts, if it does.
func endOf(ins impl.Ins, args []string, r impl.Reply, looks int) (int, string, bool) {
	switch {
	case ins.Op == impl.OpFail:
		return impl.Failed, args[0], true
	case ins.Op == impl.OpEnd:
		return impl.Done, args[0], true
	case ins.Op != impl.OpAsk && ins.Op != impl.OpHas:
		return 0, "", false
	case looks > impl.MaxLooks:
		return impl.Spent, "", true
	case ins.Op == impl.OpAsk && !r.Has:
		return impl.Missing, args[0], true
	case ins.Op == impl.OpAsk && r.Code != 0:
		return impl.Below, args[0], true
	}
	return 0, "", false
}

// wholeRun goes through a run at once, as the document's table tells it. It
// gives where the run stands at each of its looks, and how it ends.
func wholeRun(p impl.Program, replies []impl.Reply) ([]impl.Turn, impl.Turn) {
	var looks []impl.Turn
	var texts []string
	replies = append(replies[:len(replies):len(replies)], impl.Reply{}) // for the look that is too many
	for place, steps := 0, 1; ; steps++ {
		if place >= len(p.Code) {
			return looks, over(impl.Stuck, strconv.Itoa(place), steps-1)
		}
		if steps > impl.MaxSteps {
			return looks, over(impl.Spent, "", impl.MaxSteps)
		}
		ins, stuck := p.Code[place], over(impl.Stuck, strconv.Itoa(place), steps)
		place++
		kept := len(texts) - takenBy(ins.Op)
		looking := ins.Op == impl.OpAsk || ins.Op == impl.OpHas
		if kept < 0 || looking && !isName(texts[kept]) {
			return looks, stuck
		}
		args := texts[kept:]
		r := replies[len(looks)]
		if looking {
			looks = append(looks, impl.Turn{Ask: ins.Op == impl.OpAsk, Name: args[0], Steps: steps})
		}
		if code, text, ended := endOf(ins, args, r, len(looks)); ended {
			return looks[:min(len(looks), impl.MaxLooks)], over(code, text, steps)
		}
		put := putBy(ins, args)
		switch {
		case ins.Op == impl.OpJump, ins.Op == impl.OpUnless && (args[0] == "" || args[0] == "0"):
			place = ins.N
		case ins.Op == impl.OpAsk:
			put = []string{r.Text}
		case ins.Op == impl.OpHas:
			put = []string{oneOrZero(r.Has)}
		}
		texts = append(texts[:kept:kept], put...)
		if len(texts) > impl.MaxStack || len(put) > 0 && len(put[0]) > impl.MaxText {
			return looks, stuck
		}
	}
}

func TestBeginningsOfReplies(t *testing.T) {
	d := &dice{5}
	ends := map[int]int{}
	looked := 0
	for range 3000 {
		p, replies := lookingProgram(d), lookingReplies(d)
		given, handed := copyOf(p), append([]impl.Reply(nil), replies...)
		looks, end := wholeRun(p, replies)
		for k, at := range looks {
			mustTurn(t, p, replies[:k], at)
		}
		mustTurn(t, p, replies[:len(looks)], end)
		mustTurn(t, p, replies[:(len(looks)+impl.MaxLooks)/2], end)
		mustTurn(t, p, replies, end)
		if t.Failed() {
			t.FailNow()
		}
		if !samePrograms(p, given) {
			t.Fatal("the program was changed")
		}
		for i := range replies {
			if replies[i] != handed[i] {
				t.Fatal("the replies were changed")
			}
		}
		ends[end.Code]++
		looked += len(looks)
	}
	for code := impl.Done; code <= impl.Below; code++ {
		if ends[code] < 20 {
			t.Errorf("only %d runs end with code %d", ends[code], code)
		}
	}
	if looked < 3000 {
		t.Errorf("only %d looks", looked)
	}
}

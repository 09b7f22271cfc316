package tests

import (
	"fmt"
	"math"
	"strings"
	"testing"

	"loop.example/kilntrace/impl"
)

var opWords = []string{"", "lit", "cat", "cut", "rest", "word", "same", "dup", "swap", "drop", "jump", "unless", "ask", "has", "fail", "end"}

// mostN is the greatest operand of an instruction that has a number.
var mostN = map[int]int{impl.OpCut: impl.MaxText, impl.OpRest: impl.MaxText, impl.OpWord: impl.MaxText, impl.OpJump: impl.MaxIns, impl.OpUnless: impl.MaxIns}

func mustRoundTrip(t *testing.T, p impl.Program) {
	t.Helper()
	given := copyOf(p)
	if !impl.ValidProgram(p) {
		t.Fatalf("not valid: %+v", p)
	}
	text := impl.PrintProgram(p)
	q, fault := impl.ParseProgram(text)
	if fault != (impl.Fault{}) || !samePrograms(p, q) {
		t.Fatalf("%q is read as %+v, %+v", text, q, fault)
	}
	if !samePrograms(p, given) {
		t.Fatal("the program was changed")
	}
}

func mustFault(t *testing.T, text string, code, line int) {
	t.Helper()
	p, fault := impl.ParseProgram(text)
	if fault != (impl.Fault{Code: code, Line: line}) || len(p.Code) != 0 {
		t.Errorf("%.80q: %+v and %d instructions, not code %d, line %d", text, fault, len(p.Code), code, line)
	}
}

func TestEachInstructionIsWritten(t *testing.T) {
	for code := impl.OpLit; code <= impl.OpEnd; code++ {
		ins, want := op(code), opWords[code]+"\n"
		if most, ok := mostN[code]; ok {
			ins.N = most
			want = fmt.Sprintf("%s %d\n", opWords[code], most)
		} else if code == impl.OpLit {
			want = "lit \"\"\n"
		}
		if got := impl.PrintProgram(program(ins)); got != want {
			t.Errorf("%+v: %q, not %q", ins, got, want)
		}
		mustRoundTrip(t, program(ins))
	}
}

func TestEachByteIsWritten(t *testing.T) {
	for i := range 256 {
		b := byte(i)
		want := fmt.Sprintf("\\%02x", b)
		if b >= 32 && b <= 126 && b != '"' && b != '\\' {
			mustFault(t, "lit \""+want+"\"\n", 2, 0)
			want = string(rune(b))
		}
		p := program(lit(string([]byte{b})))
		if got := impl.PrintProgram(p); got != "lit \""+want+"\"\n" {
			t.Errorf("byte %d: %q", b, got)
		}
		mustRoundTrip(t, p)
		if raw := "lit \"" + string([]byte{b}) + "\"\n"; raw != impl.PrintProgram(p) {
			mustFault(t, raw, 2, 0)
		}
	}
}

func TestRoundTrip(t *testing.T) {
	d := &dice{3}
	for range 2000 {
		mustRoundTrip(t, anyProgram(d))
	}
	mustRoundTrip(t, chain(several(impl.MaxIns, lit(strings.Repeat("\xff", impl.MaxText)))))
}

func TestProgramsThatAreNotValid(t *testing.T) {
	cases := []impl.Program{
		{},
		chain(several(impl.MaxIns+1, op(impl.OpEnd))),
		program(op(0)), program(op(impl.OpEnd + 1)), program(op(-1)), program(op(math.MinInt)), program(op(math.MaxInt)),
		program(lit(long(impl.MaxText + 1))),
		program(impl.Ins{Op: impl.OpLit, Text: "a", N: 1}),
		program(op(impl.OpEnd), op(16), op(impl.OpEnd)),
	}
	for code := impl.OpLit; code <= impl.OpEnd; code++ {
		most := mostN[code]
		cases = append(cases, program(opN(code, most+1)), program(opN(code, -1)), program(opN(code, math.MaxInt)), program(opN(code, math.MinInt)))
		if code != impl.OpLit {
			cases = append(cases, program(impl.Ins{Op: code, Text: "a"}))
		}
	}
	for _, p := range cases {
		if impl.ValidProgram(p) || impl.PrintProgram(p) != "" {
			t.Errorf("taken for valid: %.200v", p)
		}
	}
}

func TestFaultsOfOneLine(t *testing.T) {
	for _, line := range []string{
		"", " ", "ends", "en", "END", " end", "end ", "end 0", "end\r", "cat 1", "has \"a\"",
		"lit", "lit ", "lit a", "lit 1", "lit \"", "lit \"\"\"", "lit \"a", "lit a\"", "lit  \"a\"", "lit \"a\" ", "lit\t\"a\"", "lit\"a\"",
		"lit \"\\\"", "lit \"\\0\"", "lit \"\\0A\"", "lit \"\\0g\"", "lit \"\\x0a\"", "lit \"\\n\"", "lit \"\\\\\"",
		"cut", "cut ", "cut a", "cut -1", "cut -0", "cut +1", "cut 00", "cut 01", "cut 1 ", "cut  1", "cut 1 1", "cut 1.0", "cut 0x1", "cut 1_0",
		"cut 2001", "rest 2001", "word 2001", "jump 201", "unless 201", "cut 99999999999999999999", "cut 18446744073709551617",
		"lit \"" + long(impl.MaxText+1) + "\"",
	} {
		mustFault(t, line+"\n", 2, 0)
		mustFault(t, "end\n"+line+"\nend\n", 2, 1)
		mustFault(t, "end\ncut 1\n"+line+"\n"+line+"\n", 2, 2)
	}
}

func TestFaultsOfWholeTexts(t *testing.T) {
	mustFault(t, "", 1, 0)
	mustFault(t, "\n", 2, 0)
	mustFault(t, "end", 2, 0)
	mustFault(t, "end\nend", 2, 1)
	mustFault(t, "end\n\n", 2, 1)
	mustFault(t, "bad\nend", 2, 0)

	ends := strings.Repeat("end\n", impl.MaxIns)
	if p, fault := impl.ParseProgram(ends); fault != (impl.Fault{}) || len(p.Code) != impl.MaxIns {
		t.Errorf("MaxIns lines: %+v", fault)
	}
	mustFault(t, ends+"end\n", 3, 0)
	mustFault(t, ends+"end", 2, impl.MaxIns)
	mustFault(t, ends+"bad\n", 2, impl.MaxIns)
	mustFault(t, ends+ends+"end 1\n", 2, 2*impl.MaxIns)

	most := strings.Repeat("end\n", impl.MaxProgram/4)
	if len(most) != impl.MaxProgram {
		t.Fatal("not MaxProgram bytes")
	}
	mustFault(t, most, 3, 0)
	mustFault(t, most[:impl.MaxProgram-1], 2, impl.MaxProgram/4-1)
	mustFault(t, most+"\n", 1, 0)
	mustFault(t, long(impl.MaxProgram), 2, 0)
	mustFault(t, long(impl.MaxProgram+1), 1, 0)
}

// spoil changes one byte of a text, takes one out or puts one in.
func spoil(d *dice, text string) string {
	at := d.below(len(text))
	one := d.pick("\n", " ", "\"", "\\", "0", "1", "a", "f", "e", "\x00", "\xff", "end\n", "lit ")
	return text[:at] + d.pick("", one) + text[at+d.below(2):]
}

// A text that is read is one that is written; and a fault of code 2 is at the
// first line that is not read by itself.
func TestNothingElseIsRead(t *testing.T) {
	d := &dice{4}
	read, refused := 0, 0
	for range 20000 {
		text := spoil(d, impl.PrintProgram(anyProgram(d)))
		p, fault := impl.ParseProgram(text)
		if fault == (impl.Fault{}) {
			read++
			if impl.PrintProgram(p) != text {
				t.Fatalf("%q is read as %+v", text, p)
			}
			continue
		}
		refused++
		if len(p.Code) != 0 {
			t.Fatalf("%q: %+v beside a fault", text, p)
		}
		if text != "" {
			mustBeFirstFault(t, text, fault)
		}
	}
	if read < 1000 || refused < 1000 {
		t.Errorf("the texts are too much alike: %d read, %d refused", read, refused)
	}
}

func mustBeFirstFault(t *testing.T, text string, fault impl.Fault) {
	t.Helper()
	lines := strings.SplitAfter(text, "\n")
	if fault.Code != 2 || fault.Line < 0 || fault.Line >= len(lines) || lines[fault.Line] == "" {
		t.Fatalf("%q: %+v", text, fault)
	}
	for i, line := range lines[:fault.Line+1] {
		if _, f := impl.ParseProgram(line); (f == impl.Fault{}) != (i < fault.Line) {
			t.Fatalf("%q: %+v, but %q by itself: %+v", text, fault, line, f)
		}
	}
}

package tests

import (
	"fmt"
	"strings"

	"loop.example/kilntrace/impl"
)

// dice gives numbers that are the same in every run of the tests.
type dice struct{ state uint64 }

func (d *dice) below(n int) int {
	d.state = d.state*6364136223846793005 + 1442695040888963407
	return int((d.state >> 33) % uint64(n))
}

func (d *dice) pick(texts ...string) string { return texts[d.below(len(texts))] }

// text gives a text of any bytes.
func (d *dice) text(most int) string {
	out := make([]byte, d.below(most+1))
	for i := range out {
		out[i] = byte(d.below(256))
	}
	return string(out)
}

func program(code ...impl.Ins) impl.Program { return impl.Program{Code: code} }

func lit(text string) impl.Ins { return impl.Ins{Op: impl.OpLit, Text: text} }

func op(code int) impl.Ins { return impl.Ins{Op: code} }

func opN(code, n int) impl.Ins { return impl.Ins{Op: code, N: n} }

// several gives an instruction some times over.
func several(n int, ins impl.Ins) []impl.Ins {
	out := make([]impl.Ins, n)
	for i := range out {
		out[i] = ins
	}
	return out
}

// chain puts lists of instructions behind each other.
func chain(parts ...[]impl.Ins) impl.Program {
	var out []impl.Ins
	for _, part := range parts {
		out = append(out, part...)
	}
	return impl.Program{Code: out}
}

// brief tells a value, but not all of a long one.
func brief(v any) string {
	told := fmt.Sprintf("%+v", v)
	return told[:min(len(told), 200)]
}

func long(n int) string { return strings.Repeat("x", n) }

func samePrograms(a, b impl.Program) bool {
	if len(a.Code) != len(b.Code) {
		return false
	}
	for i := range a.Code {
		if a.Code[i] != b.Code[i] {
			return false
		}
	}
	return true
}

func copyOf(p impl.Program) impl.Program {
	return impl.Program{Code: append([]impl.Ins(nil), p.Code...)}
}

// anyProgram gives a valid program; its operands are of all sizes.
func anyProgram(d *dice) impl.Program {
	var p impl.Program
	for range 1 + d.below(12) {
		ins := op(impl.OpLit + d.below(impl.OpEnd))
		switch ins.Op {
		case impl.OpLit:
			ins.Text = d.text(9)
		case impl.OpCut, impl.OpRest, impl.OpWord:
			ins.N = d.below(impl.MaxText + 1)
		case impl.OpJump, impl.OpUnless:
			ins.N = d.below(impl.MaxIns + 1)
		}
		p.Code = append(p.Code, ins)
	}
	return p
}

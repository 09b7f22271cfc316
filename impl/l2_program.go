package impl

import (
	"errors"
	"strconv"
	"strings"
)

// Limits of programs and runs.
const (
	MaxText    = 2000
	MaxName    = 60
	MaxIns     = 200
	MaxProgram = 1500000
	MaxStack   = 50
	MaxSteps   = 2000
	MaxLooks   = 200
)

// Instructions.
const (
	OpLit    = 1
	OpCat    = 2
	OpCut    = 3
	OpRest   = 4
	OpWord   = 5
	OpSame   = 6
	OpDup    = 7
	OpSwap   = 8
	OpDrop   = 9
	OpJump   = 10
	OpUnless = 11
	OpAsk    = 12
	OpHas    = 13
	OpFail   = 14
	OpEnd    = 15
)

// Ends of runs.
const (
	Done    = 0
	Failed  = 1
	Stuck   = 2
	Spent   = 3
	Missing = 4
	Below   = 5
)

// Ins is an instruction.
type Ins struct {
	Op   int
	Text string
	N    int
}

// Program is an action's program.
type Program struct {
	Code []Ins
}

// Fault is what is wrong with a program's text.
type Fault struct {
	Code int
	Line int
}

// Reply is what a look is answered.
type Reply struct {
	Has  bool
	Code int
	Text string
}

// Turn is how a run goes on.
type Turn struct {
	Over  bool
	Code  int
	Text  string
	Ask   bool
	Name  string
	Steps int
}

// What stands behind an instruction's word.
const (
	noOperand = iota
	textOperand
	sizeOperand
	placeOperand
)

// opKind says what is the same for all instructions of one Op.
type opKind struct {
	word    string
	operand int
	takes   int
}

// opKinds is asked by Op; no Op is 0, so its first row stands for nothing.
var opKinds = [OpEnd + 1]opKind{
	OpLit:    {"lit", textOperand, 0},
	OpCat:    {"cat", noOperand, 2},
	OpCut:    {"cut", sizeOperand, 1},
	OpRest:   {"rest", sizeOperand, 1},
	OpWord:   {"word", sizeOperand, 1},
	OpSame:   {"same", noOperand, 2},
	OpDup:    {"dup", noOperand, 1},
	OpSwap:   {"swap", noOperand, 2},
	OpDrop:   {"drop", noOperand, 1},
	OpJump:   {"jump", placeOperand, 0},
	OpUnless: {"unless", placeOperand, 1},
	OpAsk:    {"ask", noOperand, 1},
	OpHas:    {"has", noOperand, 1},
	OpFail:   {"fail", noOperand, 1},
	OpEnd:    {"end", noOperand, 1},
}

// ValidProgram says whether a program is valid.
func ValidProgram(p Program) bool {
	if len(p.Code) < 1 || len(p.Code) > MaxIns {
		return false
	}
	for _, ins := range p.Code {
		if !validIns(ins) {
			return false
		}
	}
	return true
}

func validIns(ins Ins) bool {
	if ins.Op < OpLit || ins.Op > OpEnd {
		return false
	}
	operand := opKinds[ins.Op].operand
	return len(ins.Text) <= mostText(operand) && ins.N >= 0 && ins.N <= mostNumber(operand)
}

func mostText(operand int) int {
	if operand == textOperand {
		return MaxText
	}
	return 0
}

func mostNumber(operand int) int {
	switch operand {
	case sizeOperand:
		return MaxText
	case placeOperand:
		return MaxIns
	}
	return 0
}

func validName(name string) bool {
	if len(name) < 1 || len(name) > MaxName {
		return false
	}
	for i := range len(name) {
		if name[i] < 33 || name[i] > 126 {
			return false
		}
	}
	return true
}

// PrintProgram writes a program.
func PrintProgram(p Program) string {
	if !ValidProgram(p) {
		return ""
	}
	var out strings.Builder
	for _, ins := range p.Code {
		out.WriteString(printIns(ins))
		out.WriteByte('\n')
	}
	return out.String()
}

func printIns(ins Ins) string {
	word := opKinds[ins.Op].word
	switch opKinds[ins.Op].operand {
	case textOperand:
		return word + " " + quote(ins.Text)
	case sizeOperand, placeOperand:
		return word + " " + strconv.Itoa(ins.N)
	}
	return word
}

const hexDigits = "0123456789abcdef"

// plainByte says whether a byte stands for itself between quotes.
func plainByte(b byte) bool {
	return b >= 32 && b <= 126 && b != '"' && b != '\\'
}

func quote(text string) string {
	var out strings.Builder
	out.WriteByte('"')
	for i := range len(text) {
		b := text[i]
		if plainByte(b) {
			out.WriteByte(b)
			continue
		}
		out.WriteByte('\\')
		writeHex(&out, b)
	}
	out.WriteByte('"')
	return out.String()
}

// writeHex writes a byte as two digits.
func writeHex(out *strings.Builder, b byte) {
	out.WriteByte(hexDigits[b>>4])
	out.WriteByte(hexDigits[b&15])
}

// What may be wrong with a program's text.
var (
	errSize    = errors.New("the text is empty or too long")
	errMany    = errors.New("there are too many lines")
	errNewline = errors.New("the line has no newline behind it")
	errWord    = errors.New("the line begins with no instruction's word")
	errOperand = errors.New("the operand is not that of the instruction")
	errQuotes  = errors.New("the text is not in quotes as it is written")
)

// lineError is an error with the number of the line where it was met.
type lineError struct {
	line int
	err  error
}

// Error tells the line and what is wrong in it.
func (e lineError) Error() string {
	return "line " + strconv.Itoa(e.line) + ": " + e.err.Error()
}

// Unwrap gives what is wrong in the line.
func (e lineError) Unwrap() error {
	return e.err
}

// ParseProgram reads a program.
func ParseProgram(src string) (Program, Fault) {
	code, err := readCode(src)
	if err != nil {
		return Program{}, faultOf(err)
	}
	return Program{Code: code}, Fault{}
}

func faultOf(err error) Fault {
	var at lineError
	if errors.As(err, &at) {
		return Fault{Code: 2, Line: at.line}
	}
	if errors.Is(err, errMany) {
		return Fault{Code: 3}
	}
	return Fault{Code: 1}
}

func readCode(src string) ([]Ins, error) {
	if src == "" || len(src) > MaxProgram {
		return nil, errSize
	}
	var code []Ins
	lines := 0
	for src != "" {
		line, behind, whole := strings.Cut(src, "\n")
		if !whole {
			return nil, lineError{lines, errNewline}
		}
		ins, err := readIns(line)
		if err != nil {
			return nil, lineError{lines, err}
		}
		// A wrong line behind too many good ones is still the fault to tell,
		// so reading goes on, but nothing more is gathered.
		if lines < MaxIns {
			code = append(code, ins)
		}
		lines++
		src = behind
	}
	if lines > MaxIns {
		return nil, errMany
	}
	return code, nil
}

func readIns(line string) (Ins, error) {
	word, operand, spaced := strings.Cut(line, " ")
	op, err := opOf(word)
	if err != nil {
		return Ins{}, err
	}
	kind := opKinds[op].operand
	if spaced != (kind != noOperand) {
		return Ins{}, errOperand
	}
	switch kind {
	case textOperand:
		text, err := unquote(operand)
		if err == nil && len(text) > mostText(kind) {
			err = errOperand
		}
		if err != nil {
			return Ins{}, err
		}
		return Ins{Op: op, Text: text}, nil
	case sizeOperand, placeOperand:
		n, err := readNumber(operand, mostNumber(kind))
		if err != nil {
			return Ins{}, err
		}
		return Ins{Op: op, N: n}, nil
	}
	return Ins{Op: op}, nil
}

func opOf(word string) (int, error) {
	for op := OpLit; op <= OpEnd; op++ {
		if opKinds[op].word == word {
			return op, nil
		}
	}
	return 0, errWord
}

// readNumber reads a decimal from 0 to most. It is held against what would be
// written for it, since Atoi also takes signs and needless zeros.
func readNumber(text string, most int) (int, error) {
	n, err := strconv.Atoi(text)
	if err != nil || n < 0 || n > most || strconv.Itoa(n) != text {
		return 0, errOperand
	}
	return n, nil
}

// unquote reads what quote writes, and nothing else.
func unquote(quoted string) (string, error) {
	size := len(quoted)
	if size < 2 || quoted[0] != '"' || quoted[size-1] != '"' {
		return "", errQuotes
	}
	inner := quoted[1 : size-1]
	var out strings.Builder
	for inner != "" {
		b, used := unquoteByte(inner)
		if used == 0 {
			return "", errQuotes
		}
		out.WriteByte(b)
		inner = inner[used:]
	}
	return out.String(), nil
}

// unquoteByte reads the first byte of what stands between quotes, and says how
// many bytes it takes there: 0 if it is not written as quote writes it.
func unquoteByte(inner string) (byte, int) {
	if plainByte(inner[0]) {
		return inner[0], 1
	}
	if inner[0] != '\\' || len(inner) < 3 {
		return 0, 0
	}
	b, read := readHex(inner[1], inner[2])
	if !read || plainByte(b) {
		return 0, 0
	}
	return b, 3
}

// readHex reads a byte from two digits, and says whether they are such.
func readHex(first, second byte) (byte, bool) {
	high := strings.IndexByte(hexDigits, first)
	low := strings.IndexByte(hexDigits, second)
	if high < 0 || low < 0 {
		return 0, false
	}
	return byte(high<<4 | low), true
}

// Next replays a run.
func Next(p Program, replies []Reply) Turn {
	if !ValidProgram(p) || !validReplies(replies) {
		return Turn{Code: NotValid}
	}
	m := machine{code: p.Code}
	turn := m.run()
	for _, r := range replies {
		if turn.Over {
			break
		}
		turn = m.answer(turn, r)
	}
	return turn
}

func validReplies(replies []Reply) bool {
	if len(replies) > MaxLooks {
		return false
	}
	for _, r := range replies {
		if len(r.Text) > MaxText || r.Code < Done || r.Code > Deep {
			return false
		}
	}
	return true
}

// stack holds the texts that a run works on, the top last.
type stack struct {
	texts []string
}

// put puts a text on the stack; false if it is too long or one too many.
func (s *stack) put(text string) bool {
	if len(text) > MaxText || len(s.texts) == MaxStack {
		return false
	}
	s.texts = append(s.texts, text)
	return true
}

// take takes the top, which must be there.
func (s *stack) take() string {
	top := len(s.texts) - 1
	text := s.texts[top]
	s.texts = s.texts[:top]
	return text
}

// machine is a run of a valid program.
type machine struct {
	stack
	code  []Ins
	place int
	steps int
	looks int
}

// run goes on to the end of the run or to its next look.
func (m *machine) run() Turn {
	for m.place < len(m.code) {
		if m.steps == MaxSteps {
			return m.over(Spent, "")
		}
		m.steps++
		ins := m.code[m.place]
		if len(m.texts) < opKinds[ins.Op].takes {
			return m.stuck()
		}
		switch ins.Op {
		case OpAsk, OpHas:
			return m.look(ins.Op == OpAsk)
		case OpFail:
			return m.over(Failed, m.take())
		case OpEnd:
			return m.over(Done, m.take())
		}
		if !m.work(ins) {
			return m.stuck()
		}
	}
	// No instruction stands here, so none is begun: this is no step, and it
	// can't be one too many.
	return m.stuck()
}

func (m *machine) over(code int, text string) Turn {
	return Turn{Over: true, Code: code, Text: text, Steps: m.steps}
}

func (m *machine) stuck() Turn {
	return m.over(Stuck, strconv.Itoa(m.place))
}

// look takes a name and stops there, as long as one more look is allowed.
func (m *machine) look(ask bool) Turn {
	name := m.take()
	if !validName(name) {
		return m.stuck()
	}
	if m.looks == MaxLooks {
		return m.over(Spent, "")
	}
	m.looks++
	return Turn{Ask: ask, Name: name, Steps: m.steps}
}

// answer goes on from the look at which the run stands.
func (m *machine) answer(at Turn, r Reply) Turn {
	text := r.Text
	switch {
	case !at.Ask:
		text = oneIf(r.Has)
	case !r.Has:
		return m.over(Missing, at.Name)
	case r.Code != Done:
		return m.over(Below, at.Name)
	}
	if !m.put(text) {
		return m.stuck()
	}
	m.place++
	return m.run()
}

// work does an instruction that neither looks nor ends the run, for which there
// are texts enough. It is false if the run is stuck at it, and then the place
// is still that of the instruction.
func (m *machine) work(ins Ins) bool {
	next := m.place + 1
	fits := true
	switch ins.Op {
	case OpLit:
		fits = m.put(ins.Text)
	case OpCat:
		b, a := m.take(), m.take()
		fits = m.put(a + b)
	case OpCut:
		a := m.take()
		fits = m.put(a[:min(ins.N, len(a))])
	case OpRest:
		a := m.take()
		fits = m.put(a[min(ins.N, len(a)):])
	case OpWord:
		fits = m.put(wordAt(m.take(), ins.N))
	case OpSame:
		b, a := m.take(), m.take()
		fits = m.put(oneIf(a == b))
	case OpDup:
		a := m.take()
		fits = m.put(a) && m.put(a)
	case OpSwap:
		b, a := m.take(), m.take()
		fits = m.put(b) && m.put(a)
	case OpDrop:
		m.take()
	case OpJump:
		next = ins.N
	case OpUnless:
		if a := m.take(); a == "" || a == "0" {
			next = ins.N
		}
	}
	if fits {
		m.place = next
	}
	return fits
}

func oneIf(yes bool) string {
	if yes {
		return "1"
	}
	return "0"
}

// wordAt gives a text's word of a number; the empty text if there are fewer.
func wordAt(text string, number int) string {
	start := 0
	for i := range len(text) {
		if text[i] != 32 && text[i] != 10 {
			continue
		}
		if start < i {
			if number == 0 {
				return text[start:i]
			}
			number--
		}
		start = i + 1
	}
	if number == 0 {
		return text[start:]
	}
	return ""
}

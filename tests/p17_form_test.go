package tests

import (
	"fmt"
	"slices"
	"strings"
	"testing"

	"loop.example/kilntrace/impl"
)

// formOf is the form of a valid store of any size.
func formOf(s impl.Store) string {
	var out strings.Builder
	fmt.Fprintf(&out, "store %d\n", s.Width)
	for _, text := range s.Texts {
		out.WriteString("text " + quoted(text) + "\n")
	}
	for _, r := range s.Records {
		fmt.Fprintf(&out, "record %x\n", r.Out)
		for _, line := range strings.SplitAfter(impl.PrintProgram(r.Action), "\n") {
			if line != "" {
				out.WriteString("do " + line)
			}
		}
		for _, glance := range r.Looks {
			word := "has"
			if glance.Ask {
				word = "ask"
			}
			fmt.Fprintf(&out, "%s %s %x\n", word, glance.Name, glance.Sum)
		}
		out.WriteString("end\n")
	}
	return out.String()
}

func quoted(text string) string {
	var out strings.Builder
	out.WriteByte('"')
	for _, b := range []byte(text) {
		if b < 32 || b > 126 || b == '"' || b == '\\' {
			fmt.Fprintf(&out, "\\%02x", b)
		} else {
			out.WriteByte(b)
		}
	}
	out.WriteByte('"')
	return out.String()
}

// mustWrite asks for the form of a store, and that it is read again.
func mustWrite(t *testing.T, s impl.Store) string {
	t.Helper()
	given := copyStore(s)
	form := impl.PrintStore(s)
	if want := formOf(s); form != want {
		t.Errorf("%s: %.200q, not %.200q", brief(s), form, want)
	}
	read, ok := impl.ParseStore(form)
	if !ok || !sameStores(read, s) {
		t.Errorf("%.200q is read as %v %s", form, ok, brief(read))
	}
	if !sameStores(s, given) {
		t.Error("the store was changed")
	}
	return form
}

func mustNotRead(t *testing.T, form string) {
	t.Helper()
	if s, ok := impl.ParseStore(form); ok || !sameStores(s, impl.Store{}) {
		t.Errorf("%.200q of %d bytes is read as %v %s", form, len(form), ok, brief(s))
	}
}

func TestForms(t *testing.T) {
	for width := 1; width <= impl.MaxWidth; width++ {
		mustWrite(t, impl.Store{Width: width})
		mustWrite(t, storeOf(width, ""))
		mustWrite(t, impl.Store{Width: width, Records: recordsOf(2, width)})
	}
	s := impl.Store{Width: 2, Texts: bySums(2, []string{"", "0:x y"}), Records: []impl.Record{
		{Action: program(lit("a\n"), op(impl.OpAsk), opN(impl.OpWord, 0), op(impl.OpEnd)), Looks: []impl.Glance{askedSum("a", "\x00\xff"), hasSum("b\"\\", "az")}, Out: "\x0a\xb0"},
		{Action: program(op(impl.OpFail)), Out: "  "},
	}}
	want := "store 2\ntext \"" + s.Texts[0] + "\"\ntext \"" + s.Texts[1] + "\"\n" +
		"record 0ab0\ndo lit \"a\\0a\"\ndo ask\ndo word 0\ndo end\nask a 00ff\nhas b\"\\ 617a\nend\n" +
		"record 2020\ndo fail\nend\n"
	if form := mustWrite(t, s); form != want {
		t.Errorf("%q, not %q", form, want)
	}
	// Words of the form that stand in texts, names and programs.
	words := storeOf(8, "store 1\n", "text \"a\"", "record 00\n", "end", "do end", "\n", " ")
	for _, word := range []string{"store", "text", "record", "do", "ask", "has", "end", "\"", "\\"} {
		r := recordOf(8, askedSum(word, "endendnd"), hasSum(word, "\nend\nask"))
		r.Action = program(lit(word), lit(word+"\n"), op(impl.OpEnd), op(impl.OpAsk), op(impl.OpHas))
		words.Records = append(words.Records, r)
	}
	mustWrite(t, words)
	// Each instruction, with what it has behind it.
	for code := impl.OpLit; code <= impl.OpEnd; code++ {
		r := recordOf(8)
		r.Action = program(opN(code, mostN[code]), op(code))
		mustWrite(t, storeWith(nil, r))
	}
}

// Every byte that a text, a name and a sum may hold.
func TestEachByteOfAForm(t *testing.T) {
	all := ""
	for i := range 256 {
		b := string([]byte{byte(i)})
		all += b
		mustWrite(t, storeOf(1, b))
		mustWrite(t, storeOf(8, b+b+b, "x"+b+"x"))
		r := impl.Record{Action: program(lit(b)), Looks: []impl.Glance{askedSum("a", b), hasSum("b", b)}, Out: b}
		if isName(b) {
			r.Looks = append(r.Looks, askedSum(b, b), hasSum(b+b, b), hasSum("x"+b+"x", b))
		} else {
			mustNotRead(t, "store 1\nrecord 00\ndo end\nask "+b+" 00\nend\n")
			mustNotRead(t, "store 1\nrecord 00\ndo end\nhas x"+b+"x 00\nend\n")
		}
		mustWrite(t, impl.Store{Width: 1, Records: []impl.Record{r}})
		// What must be written otherwise, and what must not.
		for _, text := range []string{"text \"" + b + "\"\n", fmt.Sprintf("text \"\\%02x\"\n", i), fmt.Sprintf("text \"\\%02X\"\n", i)} {
			if form := "store 8\n" + text; form != formOf(storeOf(8, b)) {
				mustNotRead(t, form)
			}
		}
		if digits := fmt.Sprintf("%02X", i); digits != strings.ToLower(digits) {
			mustNotRead(t, "store 1\nrecord "+digits+"\ndo end\nend\n")
			mustNotRead(t, "store 1\nrecord 00\ndo end\nask a "+digits+"\nend\n")
		}
	}
	mustWrite(t, storeOf(3, all, all+all))
	mustWrite(t, storeOf(8, strings.Repeat("\x00", impl.MaxText+2), strings.Repeat("\\", impl.MaxText+2), long(impl.MaxText+2)))
}

// Lines that are nearly right.
func TestFormsThatAreNotRead(t *testing.T) {
	for _, form := range []string{
		"", "\n", " ", "store", "store 8", "store\n", "store \n", "store 0\n", "store 9\n", "store 08\n", "store +8\n", "store -8\n", "store 8 \n", "store  8\n", " store 8\n",
		"store 8\n\n", "\nstore 8\n", "store 8\r\n", "Store 8\n", "store 8\nstore 8\n", "store 8\nend\n", "store 8\nbad\n", "store 10\n", "store 18446744073709551624\n", "store8\n", "store\t8\n", "store x\n",
		"text \"a\"\n", "text \"a\"\nstore 8\n", "record 00\ndo end\nend\n", "do end\n", "end\n", "store 8\nask a 0000000000000000\n", "store 8\ndo end\n",
	} {
		mustNotRead(t, form)
	}
	for _, line := range []string{
		"text", "text ", "text a", "text \"", "text \"a", "text a\"", "text \"a\" ", "text  \"a\"", "text \"a\"\"b\"", "text\"a\"", " text \"a\"", "Text \"a\"", "text \"\\0\"", "text \"\\0A\"", "text \"\\61\"", "text \"a\"\r", "texts \"a\"",
	} {
		mustNotRead(t, "store 1\n"+line+"\n")
	}
	good := []string{"store 1", "text \"a\"", "record 0a", "do lit \"a\"", "do end", "ask a 0b", "has b 0c", "end", "record 00", "do end", "end"}
	if _, ok := impl.ParseStore(strings.Join(good, "\n") + "\n"); !ok {
		t.Fatal("the form of the test is not read")
	}
	mustNotRead(t, strings.Join(good, "\n"))
	for place, lines := range map[int][]string{
		2: {"record", "record ", "record 0", "record 0A", "record 0g", "record 0a ", "record  0a", "record 0a0a", "record 0a 0a", "record x", "record \"a\"", " record 0a", "Record 0a", "record0a", "record +a", "records 0a"},
		3: {"do", "do ", "do lit", "do lit a", "do lit \"a\" ", "do  lit \"a\"", "lit \"a\"", "do cut 01", "do cut 2001", "do jump 201", "do nothing", "do 1", "Do end", " do end", "do end ", "do do end", "do lit \"" + long(impl.MaxText+1) + "\"", "doend", "do END"},
		5: {"ask", "ask ", "ask a", "ask a ", "ask  0b", "ask a 0", "ask a 0B", "ask a 0b ", "ask a  0b", "ask a 0b0b", "ask a b 0b", "ask 0b", "Ask a 0b", " ask a 0b", "asks a 0b", "a 0b", "look a 0b", "ask \x7f 0b", "ask \xff 0b", "ask " + long(impl.MaxName+1) + " 0b", "has a", "has a 0b0", "has a 0b ", "has\ta 0b"},
		7: {"", "end ", " end", "ends", "End", "end 0", "record 0a", "text \"b\""},
	} {
		for _, line := range lines {
			bad := slices.Clone(good)
			bad[place] = line
			mustNotRead(t, strings.Join(bad, "\n")+"\n")
			// Beside the right line, too.
			mustNotRead(t, strings.Join(slices.Insert(slices.Clone(good), place, line), "\n")+"\n")
		}
	}
	// The lines stand in their order, and none is left out.
	for i := range good {
		for j := range i {
			swapped := slices.Clone(good)
			swapped[i], swapped[j] = swapped[j], swapped[i]
			if !slices.Equal(swapped, good) {
				mustReadAsWritten(t, strings.Join(swapped, "\n")+"\n")
			}
		}
		mustReadAsWritten(t, strings.Join(slices.Delete(slices.Clone(good), i, i+1), "\n")+"\n")
		mustReadAsWritten(t, strings.Join(good[:i], "\n")+"\n")
		mustReadAsWritten(t, strings.Join(slices.Insert(slices.Clone(good), i, good[i]), "\n")+"\n")
	}
	for _, order := range [][]string{
		{"store 1", "record 00", "do end", "end", "text \"a\""},           // a text behind a record
		{"store 1", "record 00", "text \"a\"", "do end", "end"},           // in the midst of one
		{"store 1", "record 00", "ask a 0b", "do end", "end"},             // a look ahead of an instruction
		{"store 1", "record 00", "do end", "ask a 0b", "do end", "end"},   // between two
		{"store 1", "record 00", "do end", "record 00", "do end", "end"},  // a record that does not end
		{"store 1", "record 00", "do end"},                                // nor the last one
		{"store 1", "record 00", "do end", "ask a 0b"},                    //
		{"store 1", "record 00"},                                          //
		{"store 1", "record 00", "end"},                                   // no action
		{"store 1", "record 00", "ask a 0b", "end"},                       //
		{"store 1", "record 00", "do end", "end", "end"},                  // an end too many
		{"store 1", "record 00", "do end", "end", "ask a 0b"},             // a look behind it
		{"store 1", "record 00", "do end", "end", "do end", "end"},        //
		{"store 1", "record 00", "do end", "ask a 0b", "store 1", "end"},  //
		{"store 2", "record 00", "do end", "end"},                         // another width
		{"store 1", "record 0000", "do end", "end"},                       //
		{"store 2", "record 0000", "do end", "ask a 0b", "end"},           //
		{"store 2", "record 0000", "do end", "has a 0b0b0b", "end"},       //
		{"store 1", "record 00", "do end", "has a", "end"},                //
		{"store 1", "text \"a\"", "text \"a\""},                           // a text twice
		{"store 1", "record 00", "do end", "end", "record 0", "do", "en"}, //
	} {
		mustNotRead(t, strings.Join(order, "\n")+"\n")
	}
	for width := 1; width <= impl.MaxWidth; width++ {
		s := storeOf(width, "0:a", "0:b", "0:c")
		mustWrite(t, s)
		slices.Reverse(s.Texts)
		mustNotRead(t, formOf(s))
	}
	first, second := twoWithOneSum(t)
	mustNotRead(t, formOf(storeOf(1, first, second)))
}

// mustReadAsWritten asks that a text is read only if it is a form.
func mustReadAsWritten(t *testing.T, form string) bool {
	t.Helper()
	s, ok := impl.ParseStore(form)
	if !ok {
		mustNotRead(t, form)
		return false
	}
	if !impl.ValidStore(s) || formOf(s) != form || impl.PrintStore(s) != form {
		t.Errorf("%.200q is read as %s", form, brief(s))
	}
	return true
}

// The numbers of a store, met exactly and passed by one.
func TestFormLimits(t *testing.T) {
	mustWrite(t, storeOf(8, numbered(impl.MaxBlobs)...))
	mustNotRead(t, formOf(storeOf(8, numbered(impl.MaxBlobs+1)...)))
	mustWrite(t, impl.Store{Width: 3, Records: recordsOf(impl.MaxRecs, 3)})
	mustNotRead(t, formOf(impl.Store{Width: 3, Records: recordsOf(impl.MaxRecs+1, 3)}))
	mustWrite(t, impl.Store{Width: 3, Records: []impl.Record{recordOf(3, glances(impl.MaxLooks, 3)...)}})
	mustNotRead(t, formOf(impl.Store{Width: 3, Records: []impl.Record{recordOf(3, glances(impl.MaxLooks+1, 3)...)}}))
	mustWrite(t, storeOf(8, long(impl.MaxText+2)))
	mustNotRead(t, formOf(storeOf(8, long(impl.MaxText+3))))
	mustWrite(t, impl.Store{Width: 1, Records: []impl.Record{recordOf(1, askedSum(long(impl.MaxName), "x"))}})
	mustNotRead(t, formOf(impl.Store{Width: 1, Records: []impl.Record{recordOf(1, askedSum(long(impl.MaxName+1), "x"))}}))
	mustWrite(t, storeWith(nil, impl.Record{Action: chain(several(impl.MaxIns, op(impl.OpEnd))), Out: long(8)}))
	mustNotRead(t, "store 1\nrecord 00\n"+strings.Repeat("do end\n", impl.MaxIns+1)+"end\n")
	mustWrite(t, storeWith(nil, impl.Record{Action: program(lit(long(impl.MaxText))), Out: long(8)}))
	mustNotRead(t, "store 1\nrecord 00\ndo lit \""+long(impl.MaxText+1)+"\"\nend\n")
}

// ofSize gives a store whose form has a number of bytes, with records or with
// texts alone at its end.
func ofSize(t *testing.T, size int, records ...impl.Record) impl.Store {
	t.Helper()
	s := storeWith(nil, records...)
	var texts []string
	left := size - len(formOf(s))
	for i := 0; left > 0; i++ {
		text := fmt.Sprint(i)
		// The line has "text ", two quotes and a newline beside the text.
		n := min(left-8, impl.MaxText+2)
		if left-8-n > 0 && left-8-n < 20 {
			n -= 20
		}
		texts = append(texts, (text + long(impl.MaxText+2))[:n])
		left -= n + 8
	}
	s.Texts = bySums(8, texts)
	if len(formOf(s)) != size || !impl.ValidStore(s) {
		t.Fatalf("a form of %d bytes, not %d", len(formOf(s)), size)
	}
	return s
}

func TestMaxForm(t *testing.T) {
	looks := recordOf(8, glances(impl.MaxLooks, 8)...)
	code := impl.Record{Action: chain(several(impl.MaxIns, lit("a"))), Out: long(8)}
	for _, records := range [][]impl.Record{nil, {looks}, {code}, {code, looks, recordOf(8)}, recordsOf(impl.MaxRecs, 8)} {
		for _, size := range []int{impl.MaxForm - 1, impl.MaxForm} {
			if form := mustWrite(t, ofSize(t, size, records...)); len(form) != size {
				t.Errorf("%d bytes, not %d", len(form), size)
			}
		}
		for _, over := range []int{1, 2, 3, 10, 1000, impl.MaxForm} {
			s := ofSize(t, impl.MaxForm+over, records...)
			if form := impl.PrintStore(s); form != "" {
				t.Errorf("a form of %d bytes", len(form))
			}
			mustNotRead(t, formOf(s))
		}
	}
	for what, s := range validStores() {
		if want := formOf(s); len(want) <= impl.MaxForm {
			mustWrite(t, s)
		} else if form := impl.PrintStore(s); form != "" {
			t.Errorf("%s: %d bytes", what, len(form))
		} else {
			mustNotRead(t, want)
		}
	}
	// Far more than can be written.
	most := impl.Record{Action: chain(several(impl.MaxIns, lit(strings.Repeat("\xff", impl.MaxText)))), Looks: glances(impl.MaxLooks, 8), Out: long(8)}
	huge := storeWith(numbered(impl.MaxBlobs), slices.Repeat([]impl.Record{most}, impl.MaxRecs)...)
	if form := impl.PrintStore(huge); form != "" {
		t.Errorf("%d bytes", len(form))
	}
	mustNotRead(t, strings.Repeat("\n", impl.MaxForm))
	mustNotRead(t, "store 8\n"+strings.Repeat(" ", impl.MaxForm))
}

func TestPrintOfWrongStores(t *testing.T) {
	for what, s := range wrongStores() {
		given := copyStore(s)
		if form := impl.PrintStore(s); form != "" {
			t.Errorf("%s: %.200q", what, form)
		}
		if !sameStores(s, given) {
			t.Errorf("%s: the store was changed", what)
		}
		if valid := impl.ValidStore(s); !valid && s.Width > 0 && s.Width < 9 && !strings.Contains(what, "action") {
			mustNotRead(t, formOf(s))
		}
	}
	if form := impl.PrintStore(impl.Store{}); form != "" {
		t.Errorf("nothing: %q", form)
	}
}

// spoilForm changes a form by a byte, a word or a line.
func spoilForm(d *dice, form string) string {
	if d.below(2) == 0 || !strings.Contains(form, "\n") {
		at := d.below(len(form))
		one := d.pick("\n", " ", "\"", "\\", "0", "1", "a", "f", "A", "\x00", "\xff", "end\n", "do ", "ask ", "has ", "text ", "\\0a")
		return form[:at] + d.pick("", one, one) + form[at+d.below(2):]
	}
	lines := strings.SplitAfter(form, "\n")
	lines = lines[:len(lines)-1]
	i, j := d.below(len(lines)), d.below(len(lines))
	switch d.below(4) {
	case 0:
		lines[i], lines[j] = lines[j], lines[i]
	case 1:
		lines = slices.Insert(lines, i, lines[j])
	case 2:
		lines = slices.Delete(lines, i, i+1)
	case 3:
		lines = lines[:i]
	}
	return strings.Join(lines, "")
}

// What is read is what is written, whatever a form is changed to.
func TestNoOtherFormIsRead(t *testing.T) {
	d := &dice{171}
	read, refused := 0, 0
	for range 6000 {
		width := 1 + d.below(impl.MaxWidth)
		s := impl.Store{Width: width}
		for range d.below(5) {
			if kept := impl.PutText(s, d.text(5)); kept.Code == 0 {
				s = kept.Store
			}
		}
		for range d.below(3) {
			s.Records = append(s.Records, anyRecord(d, width))
		}
		form := mustWrite(t, s)
		for range 3 {
			form = spoilForm(d, form)
			if form == "" {
				break
			}
			if mustReadAsWritten(t, form) {
				read++
			} else {
				refused++
			}
		}
		if t.Failed() {
			t.Fatalf("%v", s)
		}
	}
	if read < 1000 || refused < 5000 {
		t.Errorf("%d read, %d refused", read, refused)
	}
}

// What was built, trimmed and merged is read again as it was.
func TestFormsOfBuilds(t *testing.T) {
	d := &dice{172}
	written := 0
	for s, sp := range inWorlds(d, 1500, world.mixed) {
		mustWrite(t, s)
		b := impl.BuildAll(s, sp, fewNames[:1+d.below(7)])
		mustWrite(t, b.Store)
		read, _ := impl.ParseStore(impl.PrintStore(s))
		if again := impl.BuildAll(read, sp, fewNames); !sameBuilt(again, impl.BuildAll(s, sp, fewNames)) {
			t.Fatalf("in %v with %v another build", sp, s)
		}
		if t.Failed() {
			t.Fatalf("%v", s)
		}
		written += len(s.Records)
	}
	if written < 1000 {
		t.Errorf("only %d records", written)
	}
}

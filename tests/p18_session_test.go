package tests

import (
	"fmt"
	"strconv"
	"strings"
	"testing"

	"loop.example/kilntrace/impl"
)

func TestSessionOfTheDocument(t *testing.T) {
	mustSay(t, "width 8\nsource a \"x y\"\ntarget t\nlit \"a\"\nask\nword 1\nend\n.\nbuild t\nsource a \"z y\"\nbuild t\nbuild t\n",
		"ok", "code 0", "code 0", `0 "y" ran t held`, "code 0", `0 "y" ran t held`, `0 "y" ran held t`)
}

// Each command, with each of its answers.
func TestEachCommand(t *testing.T) {
	mustAnswer(t,
		"width 9", "no",
		"size", "bad",
		"width 8", "ok",
		"size", "size 0 0",
		`source s "x y"`, "code 0",
		`source s! ""`, "code 0",
		"source "+long(impl.MaxName+1)+` "x"`, "code 2",
		targetOf("t", copying("s")...), "code 0",
		targetOf("u", joining("t", "s")...), "code 0",
		targetOf("\x7f", copying("s")...), "code 2",
		"target v\nlit s\n.", "no",
		"clean s", `0 "x y"`,
		"clean u", `0 "x yx y"`,
		"clean v", `4 "v"`,
		"clean \x7f", `9 ""`,
		"stale s", "stale",
		"stale u", "stale t u",
		"stale v", "stale",
		"build s", `0 "x y" ran held`,
		"size", "size 0 0",
		"build u", `0 "x yx y" ran t u held`,
		"size", "size 2 2",
		"stale u", "stale",
		"build u t", `0 "x y" ran held t u t`,
		"save", "ok",
		"drop s", "code 0",
		"drop s", "code 4",
		"drop \x7f", "code 2",
		"stale u", "stale t u",
		"build u", `5 "t" ran t u held`,
		"size", "size 4 4",
		"build v", `4 "v" ran held`,
		"trim t", "code 0",
		"size", "size 1 1",
		"merge", "code 0",
		"size", "size 3 3",
		"trim \x7f", "code 9",
		"size", "size 3 3",
		`source s "x y"`, "code 0",
		"build u", `0 "x yx y" ran held t u`,
		"forget", "ok",
		"size", "size 0 0",
		"stale u", "stale t u",
		"width 0", "no",
		"merge", "code 0",
		"size", "size 2 2",
		"stale u", "stale",
		"width 1", "ok",
		"size", "size 0 0",
		"merge", "code 1",
		"size", "size 0 0",
		targetOf("u", lit("no \"good\"\n"), op(impl.OpFail)), "code 0",
		"build u", `1 "no \22good\22\0a" ran u held`,
		targetOf("u", op(impl.OpCat)), "code 0",
		"build u u", `2 "0" ran u held u`,
		targetOf("u", opN(impl.OpJump, 0)), "code 0",
		"clean u", `3 ""`,
		"build s u", `3 "" ran u held`,
		"drop u", "code 0",
		"clean u", `4 "u"`,
	)
}

func TestLinesOfASession(t *testing.T) {
	mustSay(t, "")
	mustSay(t, "\n", "bad")
	mustSay(t, "\n\n", "bad", "bad")
	mustSay(t, "width 8", "ok")
	mustSay(t, "width 8\n", "ok")
	mustSay(t, "width 8\n\n", "ok", "bad")
	mustSay(t, "\nwidth 8\n\n\nsize", "bad", "ok", "bad", "bad", "size 0 0")
	mustSay(t, "width 8\nsize", "ok", "size 0 0")
	mustSay(t, "width 8\r\nsize", "bad", "bad")
	mustSay(t, "width 8\rsize\n", "bad")
	for _, line := range []string{"", " ", "  ", "\t", "\x00", "\r", ".", "..", "ok", "bad", "Width 8", "WIDTH 8", "width8", "widt 8", "widths 8", "circle", "ran a", "code 0", "\"", "lit \"a\"", "end", "\xff\xfe", "store 8", "print", "help"} {
		mustSay(t, line+"\n", "bad")
		mustSay(t, "width 8\n"+line+"\nsize\n", "ok", "bad", "size 0 0")
		mustSay(t, "width 8\nsize\n"+line+" ", "ok", "size 0 0", "bad")
	}
}

// wholeCommands are lines that are commands, with what they are answered while
// there is a store, and whether they need one.
var wholeCommands = []struct {
	line, said string
	stored     bool
}{
	{"width 8", "ok", false},
	{`source a "x"`, "code 0", false},
	{"drop a", "code 4", false},
	{"clean a", `4 "a"`, false},
	{"build a", `4 "a" ran held`, true},
	{"build a b", `4 "b" ran held`, true},
	{"stale a", "stale", true},
	{"trim a", "code 0", true},
	{"trim a b", "code 0", true},
	{"save", "ok", true},
	{"merge", "code 0", true},
	{"forget", "ok", true},
	{"size", "size 0 0", true},
}

// A word too few and one too many, words that are empty, and words that are not
// a command's.
func TestWordsOfACommand(t *testing.T) {
	for _, c := range wholeCommands {
		mustSay(t, "width 8\nsave\n"+c.line, "ok", "ok", c.said)
		word, behind, more := strings.Cut(c.line, " ")
		wrong := []string{
			" " + c.line, "  " + c.line, c.line + " ", c.line + "  ", "\t" + c.line, "\"" + c.line + "\"", strings.ToUpper(word) + c.line[len(word):],
			c.line[1:], word[:len(word)-1] + c.line[len(word):], word + "s" + c.line[len(word):], word + "\t", word + "\r", word + "\x00",
		}
		if more {
			wrong = append(wrong, word, word+" ", word+"  ", word+"   ", word+"  "+behind, word+"\t"+behind, word+behind, word+" "+strings.Replace(behind, " ", "  ", 1)+" ")
		}
		if word != "build" && word != "trim" {
			wrong = append(wrong, c.line+" a", c.line+" \"\"", word+" a b", word+" a b c")
		} else {
			wrong = append(wrong, word+"  b", word+" a  b", word+" a b ")
		}
		for _, line := range wrong {
			mustSay(t, "width 8\nsave\n"+line+"\nsize", "ok", "ok", "bad", "size 0 0")
		}
	}
	// A wrong word leaves what there is.
	mustAnswer(t, "width 8", "ok", targetOf("t", lit("x"), op(impl.OpEnd)), "code 0", "build t", `0 "x" ran t held`, "save", "ok", "forget a", "bad", "size", "size 1 1", "width 8 ", "bad", "width", "bad", "width 8 8", "bad",
		"drop t ", "bad", "drop  t", "bad", "drop t t", "bad", "trim", "bad", "trim ", "bad", "trim q ", "bad", "build", "bad", "save ", "bad", "merge ", "bad", "size", "size 1 1", "build t", `0 "x" ran held t`)
}

func TestWidthsOfASession(t *testing.T) {
	for width := 1; width <= impl.MaxWidth; width++ {
		mustSay(t, fmt.Sprintf("width %d\nsize\nwidth 9\nsize\nmerge\nsave\nmerge", width), "ok", "size 0 0", "no", "size 0 0", "bad", "ok", "code 0")
	}
	for _, number := range []string{"0", "9", "10", "16", "80", "100", "999", "1000", "99999", "100000", "999999", "256", "257", "264", "65537"} {
		mustSay(t, "width "+number+"\nsize\nwidth 8\nwidth "+number+"\nsize", "no", "bad", "ok", "no", "size 0 0")
	}
	for _, number := range []string{"", "00", "01", "08", "008", "000008", "0000008", "+8", "-8", "-0", "+0", "-1", "1000000", "1234567", "9999999", "8.0", "8,", "0x8", "8e0", "1_0", "eight", "\"8\"", "8\"", "٨", "18446744073709551624", "4294967304", "8a", "a8", "8\x00", long(60)} {
		mustSay(t, "width "+number+"\nsize\nwidth 8\nwidth "+number+"\nsize", "bad", "bad", "ok", "bad", "size 0 0")
	}
	// A width is that of the sums: texts with one sum are met at small ones.
	x, y := textsOfOneSum(1, "0:a")[0], textsOfOneSum(1, "0:a")[1]
	for width := 1; width <= impl.MaxWidth; width++ {
		said := `10 "" ran held clash "0:a" ` + quoted("0:"+y)
		if width > 1 {
			said = "0 " + quoted(y) + " ran u held"
		}
		mustAnswer(t, fmt.Sprintf("width %d", width), "ok", targetOf("t", lit(x), op(impl.OpEnd)), "code 0", targetOf("u", lit(y), op(impl.OpEnd)), "code 0", "build t", `0 "a" ran t held`, "build u", said)
	}
}

func TestSourcesOfASession(t *testing.T) {
	for _, text := range []string{"", " ", "  ", "x", " x ", "x  y", "\"", "\\", "\"\"", "\" \"", "a\nb", "\n", ".", "\n.\n", "source a", "\x00\xff", "é", "\\41", long(impl.MaxText), strings.Repeat("\xff", impl.MaxText), strings.Repeat(" ", impl.MaxText)} {
		mustSay(t, sourceOf("a", text)+"\nclean a", "code 0", "0 "+quoted(text))
	}
	for i := range 256 {
		b := string([]byte{byte(i)})
		mustSay(t, sourceOf("a", b+b)+"\nclean a", "code 0", "0 "+quoted(b+b))
		said := "bad" // no byte but a plain one stands for itself, and that one not otherwise
		if quoted(b) == "\""+b+"\"" {
			said = "code 0"
			mustSay(t, fmt.Sprintf("source a \"\\%02x\"", i), "bad")
		}
		if b != "\n" {
			mustSay(t, "source a \""+b+"\"", said)
		}
		if lower := fmt.Sprintf("%02x", i); strings.ToUpper(lower) != lower {
			mustSay(t, "source a \"\\"+strings.ToUpper(lower)+"\"", "bad")
		}
	}
	for _, q := range []string{"", "x", "\"", "\"x", "x\"", "'x'", "\"x\" ", " \"x\"", "\"x\" y", "\"x\"y", "\"x\" \"y\"", "\"x\"\"y\"", "y \"x\"", "\"x\\\"", "\"\\\"", "\"\\0\"", "\"\\g0\"", "\"\\n\"", "\"\\\\\"", "\"\"\"", "\"\\22", "\"x\".", "\"\t\"", "`x`", "\"x\"\r", "\\22x\\22"} {
		mustSay(t, "source a "+q+"\nclean a", "bad", `4 "a"`)
	}
	// The name is the word, whatever it looks like.
	mustSay(t, "source \"x\" \"y\"\nclean \"x\"", "code 0", `0 "y"`)
	mustSay(t, "source source \"source\"\nclean source", "code 0", `0 "source"`)
	mustSay(t, "source  \"y\"", "bad")
	mustSay(t, "source \"y\"", "bad")
	mustSay(t, "source  a \"y\"", "bad")
	mustSay(t, "source a  \"y\"", "bad")
	mustSay(t, "source a b \"y\"", "bad")
	// What is refused leaves what there is.
	mustSay(t, sourceOf("a", "x")+"\n"+sourceOf("a", long(impl.MaxText+1))+"\nclean a\nsource a \"y\nclean a", "code 0", "code 2", `0 "x"`, "bad", `0 "x"`)
	var many, said []string
	for i := range impl.MaxThings {
		many, said = append(many, sourceOf(strconv.Itoa(i), "")), append(said, "code 0")
	}
	mustSay(t, linesOf(many)+"source a \"x\"\nclean a\nsource 7 \"y\"\nclean 7\ndrop 8\nsource a \"x\"\nclean a\ntarget b\nend\n.\ntarget 7\nend\n.\n",
		append(said, "code 3", `4 "a"`, "code 0", `0 "y"`, "code 0", "code 0", `0 "x"`, "code 3", "code 0")...)
}

func TestTargetsOfASession(t *testing.T) {
	mustSay(t, "target t\nend\n.\nclean t\n", "code 0", `2 "0"`)
	mustSay(t, "target t\nend\n.", "code 0")
	// Lines in which ParseProgram finds a fault.
	for _, lines := range []string{"", "\n", "end\n\n", "\nend\n", "end \n", " end\n", "hello\n", "lit x\n", "end\nhello\n", "cut 2001\n", "jump 201\n", "target u\nend\n", ". \n", " .\n", "..\n", ".\r\n", "\t.\n", "end\n.x\n", "end\r\n", "size\n", "lit \"" + long(impl.MaxText+1) + "\"\n", strings.Repeat("end\n", impl.MaxIns+1)} {
		mustSay(t, "target t\n"+lines+".\nclean t\n", "no", `4 "t"`)
		mustSay(t, sourceOf("t", "x")+"\ntarget t\n"+lines+".\nclean t", "code 0", "no", `0 "x"`)
		mustSay(t, "target \x7f\n"+lines+".", "no")
		mustSay(t, "target t\n"+lines, "bad")
	}
	mustSay(t, "target t\n"+strings.Repeat("end\n", impl.MaxIns)+".\nclean t", "code 0", `2 "0"`)
	mustSay(t, targetOf("t", lit(long(impl.MaxText)), op(impl.OpEnd))+"\nclean t", "code 0", `0 "`+long(impl.MaxText)+`"`)
	// Texts of the action that look like the line at its end.
	mustSay(t, targetOf("t", lit("."), lit("\n.\n"), op(impl.OpCat), op(impl.OpEnd))+"\nclean t", "code 0", `0 ".\0a.\0a"`)
	// The line at the end is missing: all lines are the action's.
	for _, lines := range []string{"", "\n", "\nend", "\nend\n", "\nend\n\n", "\nend\n. \n", "\nend\n..", "\nend\nclean t\nsize\nwidth 8\n", "\n.x", "\n .\nclean t", "\ntarget u\nend\n"} {
		mustSay(t, "target t"+lines, "bad")
		mustSay(t, "clean t\ntarget t"+lines, `4 "t"`, "bad")
	}
	// A line that begins none takes no lines.
	for _, head := range []string{"target", "target ", "target  ", " target t", "target  t", "target t ", "target t u", "target t \"\"", "Target t", "targets t", "target\tt", "target\r"} {
		mustSay(t, head+"\nend\n.\nclean t", "bad", "bad", "bad", `4 "t"`)
	}
	// Any word is the name, and what is put goes over what lay there.
	mustAnswer(t, targetOf(".", copying("target")...), "code 0", "clean .", `4 "target"`, targetOf("target", lit("x"), op(impl.OpEnd)), "code 0", "clean .", `0 "x"`, ".", "bad", sourceOf(".", "y"), "code 0", "clean .", `0 "y"`,
		targetOf("t\r", lit("x"), op(impl.OpEnd)), "code 2", targetOf(long(impl.MaxName), lit("x"), op(impl.OpEnd)), "code 0", targetOf(long(impl.MaxName+1), lit("x"), op(impl.OpEnd)), "code 2")
	// A target's lines are no commands, and what stands behind them is.
	mustSay(t, "target t\nlit \"x\"\nend\n.\n.\nend\nclean t\ntarget t\nsize\n.\nwidth 8\nsize", "code 0", "bad", "bad", `0 "x"`, "no", "ok", "size 0 0")
}

func TestNoStoreYet(t *testing.T) {
	for _, c := range wholeCommands {
		said := c.said
		if c.stored {
			said = "bad"
		}
		mustSay(t, c.line, said)
		mustSay(t, "width 0\nwidth 9\nwidth x\n"+c.line+"\nsize", "no", "no", "bad", said, map[bool]string{true: "size 0 0", false: "bad"}[c.line == "width 8"])
	}
	// None is set aside yet.
	mustSay(t, "save\nwidth 8\nmerge\nforget\nmerge\nsave\nmerge\nwidth 8\nmerge\nforget\nmerge\nwidth 1\nmerge", "bad", "ok", "bad", "ok", "bad", "ok", "code 0", "ok", "code 0", "ok", "code 0", "ok", "code 1")
}

// What width and forget leave of the store set aside, and what it is.
func TestStoreSetAside(t *testing.T) {
	mustAnswer(t,
		"width 8", "ok",
		targetOf("t", copying("s")...), "code 0",
		sourceOf("s", "x"), "code 0",
		"build t", `0 "x" ran t held`,
		"save", "ok",
		"width 8", "ok",
		"size", "size 0 0",
		"merge", "code 0",
		"size", "size 1 1",
		"build t", `0 "x" ran held t`,
		"forget", "ok",
		"size", "size 0 0",
		"merge", "code 0",
		"size", "size 1 1",
		"width 7", "ok",
		"merge", "code 1",
		"size", "size 0 0",
		"build t", `0 "x" ran t held`,
		"merge", "code 1",
		"size", "size 1 1",
		"width 9", "no",
		"width 8", "ok",
		"merge", "code 0",
		"build t", `0 "x" ran held t`,
		// What is built and trimmed afterwards is not set aside.
		sourceOf("s", "y"), "code 0",
		"build t", `0 "y" ran t held`,
		"size", "size 2 2",
		"forget", "ok",
		"merge", "code 0",
		"size", "size 1 1",
		"build t", `0 "y" ran t held`,
		"trim t", "code 0",
		"size", "size 1 1",
		"merge", "code 0",
		"size", "size 2 2",
		"merge", "code 0",
		"size", "size 2 2",
		// The last one that is set aside is the one.
		"trim t", "code 0",
		"save", "ok",
		"forget", "ok",
		"merge", "code 0",
		"build t", `0 "y" ran held t`,
		"forget", "ok",
		"save", "ok",
		"merge", "code 0",
		"size", "size 0 0",
	)
	// What is merged has the records of both.
	one := func(text string) string { return targetOf("t", lit(text), op(impl.OpEnd)) }
	mustAnswer(t, "width 8", "ok", one("x"), "code 0", "build t", `0 "x" ran t held`, "save", "ok", "forget", "ok", one("y"), "code 0", "build t", `0 "y" ran t held`, "merge", "code 0", "size", "size 2 2",
		"build t", `0 "y" ran held t`, one("x"), "code 0", "build t", `0 "x" ran held t`)
}

// A word that is no name is handed on as it is.
func TestWordsThatAreNoNames(t *testing.T) {
	for _, word := range []string{"\x7f", "\x00", "\x1f", "\t", "\xff", "é", "a\tb", "a\rb", long(impl.MaxName + 1)} {
		mustAnswer(t,
			"width 8", "ok",
			"source "+word+" \"x\"", "code 2",
			targetOf(word, copying("s")...), "code 2",
			"drop "+word, "code 2",
			"clean "+word, `9 ""`,
			"build "+word, `9 "" ran held`,
			"build a "+word, `9 "" ran held`,
			"build "+word+" a", `9 "" ran held`,
			"stale "+word, "stale",
			"trim "+word, "code 9",
			"trim a "+word, "code 9",
			"trim "+word+" "+word, "code 9",
			"size", "size 0 0",
		)
	}
	for _, word := range []string{"!", "~", "\"", "\"\"", "\\", ".", "-", "0", "width", "ran", "held", long(impl.MaxName)} {
		mustAnswer(t,
			"width 8", "ok",
			targetOf(word, copying("s")...), "code 0",
			sourceOf("s", "x"), "code 0",
			"clean "+word, `0 "x"`,
			"stale "+word, "stale "+word,
			"build "+word, `0 "x" ran `+word+` held`,
			"build "+word+" "+word, `0 "x" ran held `+word+` `+word,
			"trim "+word+" "+word, "code 0",
			"size", "size 1 1",
			"drop "+word, "code 0",
			"clean "+word, `4 `+quoted(word),
		)
	}
}

func TestSessionTooLong(t *testing.T) {
	sized := func(n int) string { return "source a \"" + long(n-len("source a \"\"")) + "\"" }
	mustSay(t, sized(impl.MaxSession), "code 2")
	mustSay(t, sized(impl.MaxSession-1)+"\n", "code 2")
	mustSay(t, "width 8\n"+sized(impl.MaxSession-8), "ok", "code 2")
	mustSay(t, "target t\n"+strings.Repeat("é\n", (impl.MaxSession-12)/3)+"\n.", "no")
	mustSay(t, strings.Repeat("\x00", impl.MaxSession), "bad")
	for _, text := range []string{
		sized(impl.MaxSession + 1), sized(impl.MaxSession) + "\n", "width 8\n" + sized(impl.MaxSession-7), "width 8\nsize\n" + sized(impl.MaxSession), strings.Repeat("\x00", impl.MaxSession+1), strings.Repeat("\n", impl.MaxSession),
		"target t\n" + long(impl.MaxSession), long(3 * impl.MaxSession), strings.Repeat("width 8\n", impl.MaxSession),
	} {
		mustSay(t, text, "too long")
	}
	// Commands are counted, whatever they are answered, and no other lines.
	action := "target t\n" + strings.Repeat("end\n", impl.MaxIns) + ".\n"
	for _, c := range []struct{ line, said string }{{"", "bad"}, {" ", "bad"}, {"size", "size 0 0"}, {"hello", "bad"}, {".", "bad"}, {"drop a", "code 4"}, {"source a \"\"", "code 0"}, {"target t t", "bad"}, {"target t\n.", "no"}, {"target t\nend\nend\n.", "code 0"}} {
		lines := strings.Repeat(c.line+"\n", impl.MaxLines-2)
		said := append([]string{"ok"}, strings.Split(strings.Repeat(c.said+"\n", impl.MaxLines-2), "\n")[:impl.MaxLines-2]...)
		mustSay(t, "width 8\n"+lines, said...)
		mustSay(t, "width 8\n"+lines+"size", append(said, "size 0 0")...)
		mustSay(t, "width 8\n"+lines+"size\n", append(said, "size 0 0")...)
		mustSay(t, "width 8\n"+lines+"size\n\n", "too long")
		mustSay(t, "width 8\n"+lines+"size\nsize", "too long")
		mustSay(t, lines+"width 8\nsize\ntarget t", "too long")
		mustSay(t, "width 8\n"+lines+action, append(said, "code 0")...)
		mustSay(t, "width 8\n"+lines+action+"size", "too long")
		mustSay(t, "width 8\n"+lines+"target t\n"+strings.Repeat("size\n", impl.MaxLines), append(said, "bad")...)
		mustSay(t, "width 8\n"+lines+"target t\n"+strings.Repeat("x\n", impl.MaxLines)+".", append(said, "no")...)
		mustSay(t, "width 8\n"+lines+"target\n"+strings.Repeat("x\n", impl.MaxLines)+".", "too long")
	}
	mustSay(t, "target t\n"+strings.Repeat("\n", impl.MaxSession-9), "bad")
}

// mustBeginAlike asks that the answers to the first commands of a session are
// the first answers to the whole, wherever it is cut.
func mustBeginAlike(t *testing.T, text string) {
	t.Helper()
	commands := commandsOf(text)
	answers := strings.SplitAfter(impl.Session(text), "\n")
	if answers[len(answers)-1] != "" || len(answers) != len(commands)+1 {
		t.Fatalf("%q: %d commands, but %q", text, len(commands), answers)
	}
	for n := range commands {
		first, want := linesOf(commands[:n]), strings.Join(answers[:n], "")
		if got := impl.Session(first); got != want {
			t.Fatalf("%q: %q, but with more behind it %q", first, got, want)
		}
		if n == 0 || commands[n-1] == "" {
			continue // an empty line is none without its newline
		}
		if got := impl.Session(strings.TrimSuffix(first, "\n")); got != want {
			t.Fatalf("%q without its last newline: %q, not %q", first, got, want)
		}
	}
}

func TestFirstAnswers(t *testing.T) {
	mustBeginAlike(t, "width 8\nsource a \"x y\"\ntarget t\nlit \"a\"\nask\nword 1\nend\n.\nbuild t\nsource a \"z y\"\nbuild t\nbuild t\n")
	mustBeginAlike(t, "\n\nsize\n\ntarget t\n.\ntarget u\nend\n.\ntarget v\nend\n")
	d := &dice{181}
	all := worlds(d)
	for round := range 300 {
		w := all[round%len(all)]
		first, second := linesOf(w.anySession()), linesOf(w.anySession())
		mustBeginAlike(t, first)
		commands := commandsOf(first)
		if last := commands[len(commands)-1]; targetLine.MatchString(strings.Split(last, "\n")[0]) && !strings.HasSuffix(last, "\n.") {
			continue // what stands behind it would belong to it
		}
		if len(first+second) <= impl.MaxSession && !strings.HasPrefix(impl.Session(first+second), impl.Session(first)) {
			t.Fatalf("%q is answered otherwise with %q behind it", first, second)
		}
	}
}

func TestSessionAsTold(t *testing.T) {
	d := &dice{182}
	said := map[string]int{}
	all := worlds(d)
	for round := range 3000 {
		text := linesOf(all[round%len(all)].anySession())
		want := sessionSlowly(text)
		if got := impl.Session(text); got != want {
			t.Fatalf("%q: %q, not %q", text, got, want)
		}
		commands := commandsOf(text)
		for i, answer := range strings.Split(strings.TrimSuffix(want, "\n"), "\n") {
			word, _, _ := strings.Cut(commands[i], " ")
			words := strings.Split(answer, " ")
			if words[0] == "code" {
				words[0] = answer
			}
			said[word+": "+words[0]]++
		}
	}
	for _, kind := range []string{
		"width: ok", "width: no", "width: bad", "source: code 0", "source: bad", "target: code 0", "target: no", "target: bad", "drop: code 0", "drop: code 4", "clean: 0", "clean: 1", "clean: 2", "clean: 4", "clean: 5", "clean: 6",
		"build: 0", "build: 1", "build: 2", "build: 4", "build: 5", "build: 6", "build: 10", "build: bad", "stale: stale", "stale: bad", "trim: code 0", "trim: code 6", "trim: code 10", "trim: bad",
		"save: ok", "merge: code 0", "merge: code 1", "merge: code 2", "merge: bad", "forget: ok", "size: size", "size: bad",
	} {
		if said[kind] < 5 {
			t.Errorf("%s is met %d times", kind, said[kind])
		}
	}
}

// Texts of any bytes, and sessions that are spoilt: each is answered, and as
// many times as it has commands.
func TestSessionsOfAnyBytes(t *testing.T) {
	d := &dice{183}
	all := worlds(d)
	pieces := []string{"\n", "\n", "\n", " ", " ", "width 8", "width", "source", "target t", "target", ".", ".", "build", "a", "t", "\"", "\\", "save", "merge", "size", "end", "lit \"a\"", "\x00", "\xff", "8"}
	for round := range 6000 {
		text := ""
		switch round % 3 {
		case 0:
			text = d.text(60)
		case 1:
			for range d.below(30) {
				text += d.pick(pieces...)
			}
		default:
			text = linesOf(all[round%len(all)].anySession())
			for range 1 + d.below(5) {
				text = spoil(d, text)
			}
		}
		if got, want := impl.Session(text), sessionSlowly(text); got != want {
			t.Fatalf("%q: %q, not %q", text, got, want)
		}
	}
}

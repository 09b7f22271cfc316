package tests

import (
	"fmt"
	"strings"
	"testing"

	"loop.example/kilntrace/impl"
)

// mustAnswerIn asks for the answers to some commands in a space, with a store of
// a width; commands and answers stand by turns.
func mustAnswerIn(t *testing.T, sp impl.Space, width int, turns ...string) {
	t.Helper()
	all := []string{fmt.Sprintf("width %d", width), "ok"}
	for _, command := range commandsFor(sp) {
		all = append(all, command, "code 0")
	}
	mustAnswer(t, append(all, turns...)...)
}

func TestCirclesInASession(t *testing.T) {
	sp := spaceOf(source("s", "x"), target("a", copying("b")...), target("b", copying("c")...), target("c", copying("b")...), target("l", copying("l")...), target("t", copying("s")...))
	mustAnswerIn(t, sp, 8,
		"clean a", `6 "" circle b c`,
		"clean c", `6 "" circle c b`,
		"clean l", `6 "" circle l`,
		"build a", `6 "" circle b c ran held`,
		"build t l", `6 "" circle l ran held`,
		"size", "size 0 0",
		"build t", `0 "x" ran t held`,
		"build l t", `6 "" circle l ran held`,
		"size", "size 1 1",
		"stale a", "stale",
		"trim a", "code 6",
		"trim t a", "code 6",
		"size", "size 1 1",
		"build t", `0 "x" ran held t`,
		targetOf("c", lit("y"), op(impl.OpEnd)), "code 0",
		"build a", `0 "y" ran c b a held`,
		"stale a", "stale",
		sourceOf("c", "z"), "code 0",
		"stale a", "stale a b",
	)
}

// A build with a code above 5 leaves the store.
func TestBuildsThatKeepNothing(t *testing.T) {
	deep := ladder(impl.MaxDepth+1, copying("s")...)
	last := rung(impl.MaxDepth)
	mustAnswerIn(t, deep, 8,
		"build "+last, `0 "given" ran `+last+` held`,
		"clean t000", `7 `+quoted(last),
		"build t000", `7 `+quoted(last)+` ran held`,
		"build t002 t000", `7 `+quoted(last)+` ran held`,
		"trim t000", "code 7",
		"stale t000", "stale",
		"size", "size 1 1",
		"build "+last, `0 "given" ran held `+last,
	)
	names := strings.Repeat(" s", impl.MaxThings)
	mustAnswerIn(t, deep, 8,
		"build "+last+" t058", `0 "given" ran `+last+" t059 t058 held "+last,
		"size", "size 1 3",
		"build"+names, `0 "given" ran held`,
		"build"+names+" s", `9 "" ran held`,
		"trim"+names+" s", "code 9",
		"size", "size 1 3",
		"trim"+names, "code 0",
		"size", "size 0 0",
	)
	// Two texts with one sum.
	same := textsOfOneSum(1, "0:a")
	sp := spaceOf(source("x", "a"), source("y", same[1]), target("t", copying("x")...), target("u", joining("y")...), target("z", lit("x"), op(impl.OpEnd)))
	clash := `10 "" ran held clash "0:a" ` + quoted("0:"+same[1])
	mustAnswerIn(t, sp, 1,
		"build t", `0 "a" ran t held`,
		"build u", clash,
		"build z u", clash,
		"build u z", clash,
		"stale u", "stale",
		"trim u", "code 10",
		"trim z u", "code 10",
		"size", "size 1 1",
		"build t", `0 "a" ran held t`,
		"save", "ok",
		"forget", "ok",
		"build u", "0 "+quoted(same[1])+" ran u held",
		"build t", `10 "" ran held clash `+quoted("0:"+same[1])+` "0:a"`,
		"merge", "code 2",
		"size", "size 1 1",
		"build u", "0 "+quoted(same[1])+" ran held u",
	)
	// What clashes is told in quotes.
	odd := ""
	for i := 0; odd == "" || impl.Sum("1:"+odd, 1) != impl.Sum("1:\"\n\"", 1) || odd == "\"\n\""; i++ {
		odd = fmt.Sprintf("\\ \x00%d", i)
	}
	sp = spaceOf(target("t", lit("\"\n\""), op(impl.OpFail)), target("u", lit(odd), op(impl.OpFail)))
	mustAnswerIn(t, sp, 1, "build t", `1 "\22\0a\22" ran t held`, "build u", `10 "" ran held clash "1:\22\0a\22" `+quoted("1:"+odd))
}

// manyTargets gives a space of targets that all hang on s, eleven times of which
// are more than a store's records; and the command that builds all.
func manyTargets() (impl.Space, string) {
	things := []any{source("s", "")}
	build := "build"
	for i := range 185 {
		things = append(things, target(fmt.Sprint(i), lit("s"), op(impl.OpAsk), lit(fmt.Sprint(i)), op(impl.OpCat), op(impl.OpEnd)))
		build += fmt.Sprintf(" %d", i)
	}
	return spaceOf(things...), build
}

func TestFullStoreOfASession(t *testing.T) {
	sp, build := manyTargets()
	ran := " ran" + strings.TrimPrefix(build, "build") + " held"
	var turns []string
	put := func(text, said string) { turns = append(turns, sourceOf("s", text), "code 0", build, said) }
	for _, text := range []string{"a", "b", "c", "d", "e", "f", "g", "h", "i", "j"} {
		put(text, "0 "+quoted(text+"184")+ran)
	}
	turns = append(turns, "size", "size 1860 1850")
	put("k", `11 "" ran held`)
	turns = append(turns, "size", "size 1860 1850", "trim 0 1 2 3", "code 0", "size", "size 5 4")
	mustAnswerIn(t, sp, 8, turns...)
	// Two stores that are too much together.
	turns = nil
	for _, text := range []string{"a", "b", "c", "d", "e", "f"} {
		put(text, "0 "+quoted(text+"184")+ran)
	}
	turns = append(turns, "size", "size 1116 1110", "save", "ok", "forget", "ok")
	for _, text := range []string{"g", "h", "i", "j"} {
		put(text, "0 "+quoted(text+"184")+ran)
	}
	turns = append(turns, "merge", "code 0", "size", "size 1860 1850", "merge", "code 0", "size", "size 1860 1850", "forget", "ok")
	for _, text := range []string{"g", "h", "i", "j", "k"} {
		put(text, "0 "+quoted(text+"184")+ran)
	}
	turns = append(turns, "merge", "code 3", "size", "size 930 925")
	mustAnswerIn(t, sp, 8, turns...)
}

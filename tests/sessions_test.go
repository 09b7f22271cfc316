package tests

import (
	"fmt"
	"regexp"
	"slices"
	"strconv"
	"strings"
	"testing"

	"loop.example/kilntrace/impl"
)

// mustSay asks for the answers to a session, given as lines.
func mustSay(t *testing.T, text string, want ...string) {
	t.Helper()
	if got := impl.Session(text); got != linesOf(want) {
		t.Errorf("%.300q: %.300q, not %.300q", text, got, linesOf(want))
	}
}

// mustAnswer asks for the answer to each of some commands in turn: commands and
// answers stand by turns.
func mustAnswer(t *testing.T, turns ...string) {
	t.Helper()
	var text, want []string
	for i := 0; i+1 < len(turns); i += 2 {
		text, want = append(text, turns[i]), append(want, turns[i+1])
	}
	got := strings.Split(impl.Session(linesOf(text)), "\n")
	for i := range want {
		if i >= len(got) || got[i] != want[i] {
			t.Errorf("command %d, %.200q: %.200q, not %.200q", i, text[i], append(got, "nothing")[min(i, len(got))], want[i])
		}
	}
	if len(got) != len(want)+1 {
		t.Errorf("%d answers to %d commands", len(got)-1, len(want))
	}
}

// linesOf gives lines, each with a newline behind it.
func linesOf(lines []string) string {
	var out strings.Builder
	for _, line := range lines {
		out.WriteString(line + "\n")
	}
	return out.String()
}

// targetOf is the command that sets a target.
func targetOf(name string, code ...impl.Ins) string {
	return "target " + name + "\n" + impl.PrintProgram(program(code...)) + "."
}

func sourceOf(name, text string) string { return "source " + name + " " + quoted(text) }

// commandsFor gives the commands that set all of a space.
func commandsFor(sp impl.Space) []string {
	var out []string
	for _, s := range sp.Sources {
		out = append(out, sourceOf(s.Name, s.Text))
	}
	for _, m := range sp.Targets {
		out = append(out, targetOf(m.Name, m.Action.Code...))
	}
	return out
}

// commandsOf cuts a text into commands, each with the lines that belong to it.
func commandsOf(text string) []string {
	var out []string
	for text != "" {
		end := 0
		if line, behind, _ := strings.Cut(text, "\n"); targetLine.MatchString(line) {
			end = len(text)
			if at := strings.Index("\n"+behind+"\n", "\n.\n"); at >= 0 {
				end = len(line) + 1 + at + 1
			}
		} else {
			end = len(line)
		}
		end = min(end, len(text))
		out = append(out, text[:end])
		text = strings.TrimPrefix(text[end:], "\n")
	}
	return out
}

// What lines must be to be commands. A word is any bytes without a space.
var (
	widthLine  = regexp.MustCompile(`^width (0|[1-9][0-9]{0,5})$`)
	sourceLine = regexp.MustCompile(`^source ([^ ]+) (".*")$`)
	targetLine = regexp.MustCompile(`^target ([^ ]+)$`)
	nameLine   = regexp.MustCompile(`^(drop|clean|stale) ([^ ]+)$`)
	namesLine  = regexp.MustCompile(`^(build|trim)(( [^ ]+)+)$`)
	wordLine   = regexp.MustCompile(`^(save|merge|forget|size)$`)
)

// slowSession is a session as the document tells it, held against which the
// program's must answer the same.
type slowSession struct {
	space  impl.Space
	stores []impl.Store // the store; none, or the one
	aside  []impl.Store
}

func sessionSlowly(text string) string {
	commands := commandsOf(text)
	if len(text) > impl.MaxSession || len(commands) > impl.MaxLines {
		return "too long\n"
	}
	var s slowSession
	out := ""
	for _, command := range commands {
		out += s.answer(command) + "\n"
	}
	return out
}

func (s *slowSession) answer(command string) string {
	head, body, _ := strings.Cut(command, "\n")
	if m := widthLine.FindStringSubmatch(head); m != nil {
		n, _ := strconv.Atoi(m[1])
		if n < 1 || n > 8 {
			return "no"
		}
		s.stores = []impl.Store{{Width: n}}
		return "ok"
	}
	if m := sourceLine.FindStringSubmatch(head); m != nil {
		text, read := unquoted(m[2])
		if !read {
			return "bad"
		}
		return s.put(impl.PutSource(s.space, m[1], text))
	}
	if m := targetLine.FindStringSubmatch(head); m != nil {
		lines, whole := strings.CutSuffix("\n"+body, "\n.")
		if !whole {
			return "bad"
		}
		if lines != "" {
			lines = lines[1:] + "\n"
		}
		p, fault := impl.ParseProgram(lines)
		if fault != (impl.Fault{}) {
			return "no"
		}
		return s.put(impl.PutTarget(s.space, m[1], p))
	}
	if m := nameLine.FindStringSubmatch(head); m != nil {
		switch {
		case m[1] == "drop":
			return s.put(impl.Drop(s.space, m[2]))
		case m[1] == "clean":
			return resultTold(impl.Clean(s.space, m[2]))
		case len(s.stores) == 1:
			return strings.Join(append([]string{"stale"}, impl.Stale(s.stores[0], s.space, m[2])...), " ")
		}
		return "bad"
	}
	if len(s.stores) == 0 {
		return "bad"
	}
	if m := namesLine.FindStringSubmatch(head); m != nil {
		names := strings.Split(m[2][1:], " ")
		if m[1] == "trim" {
			out, code := impl.Trim(s.stores[0], s.space, names)
			return s.keep(out, code)
		}
		return s.built(impl.BuildAll(s.stores[0], s.space, names))
	}
	if wordLine.MatchString(head) {
		return s.word(head)
	}
	return "bad"
}

func (s *slowSession) word(word string) string {
	switch word {
	case "size":
		return fmt.Sprintf("size %d %d", len(s.stores[0].Texts), len(s.stores[0].Records))
	case "save":
		s.aside = []impl.Store{copyStore(s.stores[0])}
		return "ok"
	case "forget":
		s.stores[0] = impl.Store{Width: s.stores[0].Width}
		return "ok"
	}
	if len(s.aside) == 0 {
		return "bad"
	}
	kept := impl.Merge(s.stores[0], s.aside[0])
	return s.keep(kept.Store, kept.Code)
}

func (s *slowSession) put(sp impl.Space, code int) string {
	if code == 0 {
		s.space = sp
	}
	return fmt.Sprintf("code %d", code)
}

func (s *slowSession) keep(store impl.Store, code int) string {
	if code == 0 {
		s.stores[0] = store
	}
	return fmt.Sprintf("code %d", code)
}

func (s *slowSession) built(b impl.Built) string {
	out := resultTold(resultOf(b)) + " ran"
	for _, name := range b.Ran {
		out += " " + name
	}
	out += " held"
	for _, name := range b.Held {
		out += " " + name
	}
	if b.Code <= 5 {
		s.stores[0] = b.Store
	}
	if b.Code == 10 {
		out += " clash " + quoted(b.A) + " " + quoted(b.B)
	}
	return out
}

func resultTold(r impl.Result) string {
	out := fmt.Sprintf("%d %s", r.Code, quoted(r.Text))
	if r.Chain != nil {
		out += " circle " + strings.Join(r.Chain, " ")
	}
	return out
}

// unquoted gives the text that is written thus in quotes, and whether there is
// one.
func unquoted(q string) (string, bool) {
	var out []byte
	inner := q[1 : len(q)-1]
	for i := 0; i < len(inner); i++ {
		b := inner[i]
		if b == '\\' {
			n, err := strconv.ParseUint(inner[min(i+1, len(inner)):min(i+3, len(inner))], 16, 8)
			if err != nil {
				return "", false
			}
			b = byte(n)
			i += 2
		}
		out = append(out, b)
	}
	return string(out), quoted(string(out)) == q
}

// anyCommand gives a command that is mostly right, in a world of few names.
func (w world) anyCommand() string {
	name := fewNames[w.below(len(fewNames))]
	switch w.below(20) {
	case 0, 1, 2, 3:
		return sourceOf(name, w.pick(w.texts...))
	case 4, 5, 6, 7:
		return targetOf(name, builtProgram(w.dice, name).Code...)
	case 8:
		return "drop " + name
	case 9:
		return "clean " + name
	case 10, 11, 12, 13:
		return "build " + strings.Join(append(someNames(w.dice), name), " ")
	case 14:
		return "stale " + name
	case 15:
		return "trim " + strings.Join(append(someNames(w.dice), name), " ")
	case 16:
		return w.pick("save", "save", "size")
	case 17:
		return w.pick("merge", "merge", "size")
	case 18:
		if w.below(2) == 0 {
			return w.pick("forget", "forget", "forget", fmt.Sprintf("width %d", w.width), "width 0", fmt.Sprintf("width %d", w.width%8+1))
		}
		return "size"
	}
	return w.wrongCommand()
}

// wrongCommand gives a line that is nearly a command.
func (w world) wrongCommand() string {
	words := strings.Split(w.pick("width 1", "source a \"x y\"", "drop a", "clean a", "build a b", "stale a", "trim a b", "save", "merge", "forget", "size", "target a", "target"), " ")
	at := w.below(len(words))
	switch w.below(4) {
	case 0:
		words = slices.Delete(words, at, at+1)
	case 1:
		words = slices.Insert(words, at, w.pick("", "a", "\x7f", "\"\"", "1"))
	case 2:
		words[at] = spoil(w.dice, words[at])
	default:
		words = append(words, w.pick("", "a", "\""))
	}
	return strings.ReplaceAll(strings.Join(words, " "), "\n", "")
}

// anySession gives the commands of a session, all together not too long.
func (w world) anySession() []string {
	var out []string
	if w.below(8) > 0 {
		out = append(out, fmt.Sprintf("width %d", w.width))
	}
	if w.below(4) > 0 {
		out = append(out, commandsFor(w.space())...)
	}
	size := len(linesOf(out))
	for range 10 + w.below(60) {
		command := w.anyCommand()
		size += len(command) + 1
		if size > impl.MaxSession {
			break
		}
		out = append(out, command)
	}
	return out
}

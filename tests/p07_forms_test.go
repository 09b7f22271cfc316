package tests

import (
	"math"
	"strconv"
	"testing"

	"loop.example/kilntrace/impl"
)

func mustForm(t *testing.T, r impl.Result, want string) {
	t.Helper()
	if got := impl.FormResult(r); got != want {
		t.Errorf("%s: %.80q, not %.80q", brief(r), got, want)
	}
	back, ok := impl.ReadResult(want)
	if want == "" {
		r = impl.Result{}
	}
	if ok != (want != "") || !sameResults(back, r) {
		t.Errorf("%.80q is read as %s %v", want, brief(back), ok)
	}
}

func TestFormsOfResults(t *testing.T) {
	texts := []string{"", "x", ":", "0:x", "6:", "a\nb\x00\xff", long(impl.MaxText)}
	for code := impl.Done; code <= impl.Below; code++ {
		for _, text := range texts {
			mustForm(t, ended(code, text), strconv.Itoa(code)+":"+text)
		}
		mustForm(t, impl.Result{Code: code, Chain: []string{}}, strconv.Itoa(code)+":")
		mustForm(t, ended(code, long(impl.MaxText+1)), "")
		mustForm(t, impl.Result{Code: code, Text: "x", Chain: []string{"a"}}, "")
		mustForm(t, impl.Result{Code: code, Chain: []string{""}}, "")
	}
	for _, code := range []int{impl.Circle, impl.Deep, 8, impl.NotValid, 10, 48, -1, math.MaxInt, math.MinInt} {
		for _, text := range texts {
			mustForm(t, ended(code, text), "")
		}
	}
	mustForm(t, circle("a", "b"), "")
}

func TestTextsThatAreNoForm(t *testing.T) {
	for _, text := range []string{"", "0", ":", "x", "0x", ":0", "00:", "01:x", " 0:x", "6:", "7:x", "9:", "/:", "a:x", "-1:x", "\x00:", "0;x", "0 :",
		"0:" + long(impl.MaxText+1), "5:" + long(impl.MaxText+1)} {
		if r, ok := impl.ReadResult(text); ok || !sameResults(r, impl.Result{}) {
			t.Errorf("%.80q is read as %s %v", text, brief(r), ok)
		}
	}
}

// A text is read exactly if it is the form of what is read from it.
func TestReadResultReadsFormsAlone(t *testing.T) {
	d := &dice{41}
	read := 0
	for range 20000 {
		text := d.pick("", "0", "3", "5", "6", "9", "/", d.text(1)) + d.pick(":", ":", "", ";") + d.text(4)
		r, ok := impl.ReadResult(text)
		if ok {
			read++
			mustForm(t, r, text)
			continue
		}
		if !sameResults(r, impl.Result{}) {
			t.Fatalf("%q: %v and false", text, r)
		}
		if len(text) >= 2 && text[0] >= '0' && text[0] <= '5' && text[1] == ':' {
			t.Fatalf("%q is not read", text)
		}
	}
	if read < 2000 {
		t.Errorf("only %d texts were read", read)
	}
}

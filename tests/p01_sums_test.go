package tests

import (
	"encoding/binary"
	"hash/fnv"
	"math"
	"slices"
	"strconv"
	"testing"

	"loop.example/kilntrace/impl"
)

var noWidths = []int{0, -1, impl.MaxWidth + 1, math.MinInt, math.MaxInt}

func TestSumIsTheLastBytes(t *testing.T) {
	d := &dice{1}
	texts := []string{"", "a", "\x00", "\xff", "foobar", long(impl.MaxText + 2)}
	for range 300 {
		texts = append(texts, d.text(40))
	}
	for _, text := range texts {
		h := fnv.New64a()
		h.Write([]byte(text))
		var whole [8]byte
		binary.BigEndian.PutUint64(whole[:], h.Sum64())
		for width := 1; width <= impl.MaxWidth; width++ {
			if got, want := impl.Sum(text, width), string(whole[8-width:]); got != want {
				t.Errorf("Sum(%q, %d) is %x, not %x", text, width, got, want)
			}
		}
	}
}

func TestSumOfNoWidth(t *testing.T) {
	for _, width := range noWidths {
		if got := impl.Sum("a", width); got != "" {
			t.Errorf("width %d: %x", width, got)
		}
	}
}

// firstClash is what the document says of Clash, word by word.
func firstClash(texts []string, width int) (string, string, bool) {
	for j := range texts {
		for i := range j {
			if texts[i] != texts[j] && impl.Sum(texts[i], width) == impl.Sum(texts[j], width) {
				return texts[i], texts[j], true
			}
		}
	}
	return "", "", false
}

func TestClashIsTheFirstPair(t *testing.T) {
	d := &dice{2}
	found, none := 0, 0
	for range 2000 {
		texts := make([]string, d.below(30))
		for i := range texts {
			texts[i] = strconv.Itoa(d.below(100000))
			if i > 0 && d.below(3) == 0 {
				// The same text once more is no clash.
				texts[i] = texts[d.below(i)]
			}
		}
		width := 1 + d.below(2)
		given := slices.Clone(texts)
		a, b, ok := impl.Clash(texts, width)
		wantA, wantB, wantOK := firstClash(texts, width)
		if a != wantA || b != wantB || ok != wantOK {
			t.Fatalf("Clash(%q, %d): %q %q %v, not %q %q %v", texts, width, a, b, ok, wantA, wantB, wantOK)
		}
		if !slices.Equal(texts, given) {
			t.Fatal("the list was changed")
		}
		if ok {
			found++
		} else {
			none++
		}
	}
	if found < 100 || none < 100 {
		t.Errorf("the lists are too much alike: %d with a clash, %d without", found, none)
	}
}

// twoWithOneSum gives two different texts with one sum of width 1.
func twoWithOneSum(t *testing.T) (string, string) {
	for i := range 1000 {
		if b := strconv.Itoa(i); b != "x" && impl.Sum(b, 1) == impl.Sum("x", 1) {
			return "x", b
		}
	}
	t.Fatal("no two texts with one sum of one byte")
	return "", ""
}

func TestClashOrderOfThePair(t *testing.T) {
	a, b := twoWithOneSum(t)
	for _, c := range []struct {
		texts []string
		a, b  string
		ok    bool
	}{
		{nil, "", "", false},
		{[]string{a}, "", "", false},
		{[]string{a, a, a}, "", "", false},
		{[]string{a, b}, a, b, true},
		{[]string{b, a}, b, a, true},
		{[]string{b, b, a, b}, b, a, true},
	} {
		if x, y, ok := impl.Clash(c.texts, 1); x != c.a || y != c.b || ok != c.ok {
			t.Errorf("%q: %q %q %v", c.texts, x, y, ok)
		}
	}
}

func TestClashLimits(t *testing.T) {
	a, b := twoWithOneSum(t)
	texts := make([]string, impl.MaxBlobs)
	for i := range texts {
		texts[i] = a
	}
	texts[impl.MaxBlobs-1] = b
	if x, y, ok := impl.Clash(texts, 1); x != a || y != b || !ok {
		t.Errorf("MaxBlobs texts: %q %q %v", x, y, ok)
	}
	if x, y, ok := impl.Clash(append(texts, b), 1); x != "" || y != "" || ok {
		t.Errorf("MaxBlobs texts and one more: %q %q %v", x, y, ok)
	}
	for _, width := range noWidths {
		if x, y, ok := impl.Clash([]string{a, b}, width); x != "" || y != "" || ok {
			t.Errorf("width %d: %q %q %v", width, x, y, ok)
		}
	}
	for i := range texts {
		texts[i] = strconv.Itoa(i)
	}
	if x, y, ok := impl.Clash(texts, impl.MaxWidth); x != "" || y != "" || ok {
		t.Errorf("different sums: %q %q %v", x, y, ok)
	}
}

package ascii

import (
	"slices"
	"testing"
)

func TestLetters(t *testing.T) {
	for c := 0; c < 256; c++ {
		want := c >= 'a' && c <= 'z' || c >= 'A' && c <= 'Z'
		if Letter(byte(c)) != want {
			t.Errorf("Letter(%d) is %v", c, !want)
		}
	}
	if got := Lower("@AZ[`az{09\xc3\x89"); got != "@az[`az{09\xc3\x89" {
		t.Errorf("Lower: %q", got)
	}
}

func TestNumber(t *testing.T) {
	for _, c := range []struct {
		s          string
		base, most int64
		n          int64
		ok         bool
	}{
		{"0", 10, 9, 0, true}, {"65535", 10, 65535, 65535, true}, {"65536", 10, 65535, 65536, true}, {"99999999999999999999999999", 10, 65535, 65536, true},
		{"000000000000000000000000000012", 10, 65535, 12, true}, {"7", 8, 9, 7, true}, {"8", 8, 9, 0, false}, {"fF", 16, 255, 255, true}, {"g", 16, 255, 0, false}, {"aA", 10, 255, 0, false},
		{"", 10, 9, 0, false}, {"1 ", 10, 99, 0, false}, {"-1", 10, 99, 0, false}, {"+1", 10, 99, 0, false}, {"99999999x", 10, 9, 0, false},
	} {
		n, ok := Number(c.s, c.base, c.most)
		if n != c.n || ok != c.ok {
			t.Errorf("Number(%q, %d, %d) is %d, %v", c.s, c.base, c.most, n, ok)
		}
	}
}

func TestCuts(t *testing.T) {
	for _, c := range []struct{ s, ahead, behind, lastAhead, lastBehind string }{
		{"a:b:c", "a", "b:c", "a:b", "c"}, {":", "", "", "", ""}, {"a:", "a", "", "a", ""}, {":b", "", "b", "", "b"},
	} {
		a, b, ok := Cut(c.s, ':')
		if a != c.ahead || b != c.behind || !ok {
			t.Errorf("Cut(%q) is %q, %q, %v", c.s, a, b, ok)
		}
		a, b, ok = CutLast(c.s, ':')
		if a != c.lastAhead || b != c.lastBehind || !ok {
			t.Errorf("CutLast(%q) is %q, %q, %v", c.s, a, b, ok)
		}
	}
	if a, b, ok := Cut("abc", ':'); a != "abc" || b != "" || ok {
		t.Errorf("Cut without: %q, %q, %v", a, b, ok)
	}
	if a, b, ok := CutLast("abc", ':'); a != "" || b != "abc" || ok {
		t.Errorf("CutLast without: %q, %q, %v", a, b, ok)
	}
	if got := Split(".a..b", '.'); !slices.Equal(got, []string{"", "a", "", "b"}) {
		t.Errorf("Split: %q", got)
	}
	if got := Split("", '.'); !slices.Equal(got, []string{""}) {
		t.Errorf("Split of the empty text: %q", got)
	}
}

func TestWithoutBreaks(t *testing.T) {
	for _, c := range [][2]string{{"", ""}, {"\t\r\n", ""}, {"\ta b\n\nc\r", "a bc"}, {" \x00\x08\x0b\x0c\x0e\xff ", " \x00\x08\x0b\x0c\x0e\xff "}} {
		if got := WithoutBreaks(c[0]); got != c[1] {
			t.Errorf("WithoutBreaks(%q) is %q", c[0], got)
		}
	}
}

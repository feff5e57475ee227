package points

import (
	"testing"
	"unicode/utf8"
)

func TestP2Clean(t *testing.T) {
	const r = "\uFFFD"
	for _, c := range [][2]string{
		{"", ""}, {"abc", "abc"}, {"\x00\x7f", "\x00\x7f"},
		{"\u0080\u07ff\u0800\uffff\U00010000\U0010ffff", "\u0080\u07ff\u0800\uffff\U00010000\U0010ffff"},
		{"\ud7ff\ue000\ufffd\ufffe", "\ud7ff\ue000\ufffd\ufffe"},
		{"\xf0\x9f", r}, {"\xed\xa0\x80", r + r + r}, {"\xc0\x80", r + r},
		{"\xc3", r}, {"\xc3a", r + "a"}, {"\xe2\x82", r}, {"\xe2\x82\xc3\xa9", r + "é"}, {"\xf0\x9f\x98", r}, {"\xf0\x9f\x98a", r + "a"},
		{"\x80", r}, {"\xbf\xbf", r + r}, {"\xc1\xbf", r + r}, {"\xe0\x9f\xbf", r + r + r}, {"\xf0\x8f\xbf\xbf", r + r + r + r},
		{"\xed\xbf\xbf", r + r + r}, {"\xf4\x90\x80\x80", r + r + r + r}, {"\xf5\x80\x80\x80", r + r + r + r}, {"\xff\xfe", r + r},
		{"\xf4\x8f\xbf\xbf\xbf", "\U0010ffff" + r}, {"\xe2\x82\xac\x82", "€" + r}, {"\xe2\xe2\x82\xac", r + "€"},
	} {
		if got := Clean(c[0]); got != c[1] {
			t.Errorf("Clean(%q) is %q, want %q", c[0], got, c[1])
		}
	}
}

// byTheWords does what P2 says, from a list of all that begins a code point.
func byTheWords(s string, begins map[string]bool) string {
	out := ""
	for len(s) > 0 {
		r, n := utf8.DecodeRuneInString(s)
		if r != utf8.RuneError || n == 3 {
			out += s[:n]
			s = s[n:]
			continue
		}
		n = 1
		for k := 2; k <= len(s) && begins[s[:k]]; k++ {
			n = k
		}
		out += "\uFFFD"
		s = s[n:]
	}
	return out
}

func TestP2AllEdges(t *testing.T) {
	begins := map[string]bool{}
	for r := rune(0x80); r <= utf8.MaxRune; r++ {
		if utf8.ValidRune(r) {
			s := string(r)
			for k := 1; k < len(s); k++ {
				begins[s[:k]] = true
			}
		}
	}
	const edges = "A\x7f\x80\x8f\x90\x9f\xa0\xbf\xc0\xc1\xc2\xdf\xe0\xe1\xec\xed\xee\xef\xf0\xf1\xf3\xf4\xf5\xff"
	for i := 0; i < len(edges)*len(edges)*len(edges)*len(edges); i++ {
		b := [4]byte{}
		n := i
		for k := range b {
			b[k] = edges[n%len(edges)]
			n /= len(edges)
		}
		s := string(b[:])
		if got, want := Clean(s), byTheWords(s, begins); got != want {
			t.Fatalf("Clean(%q) is %q, want %q", s, got, want)
		}
	}
}

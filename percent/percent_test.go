package percent

import (
	"fmt"
	"strings"
	"testing"
)

func TestP3Sets(t *testing.T) {
	for _, c := range []struct {
		name string
		set  Set
		in   string
	}{
		{"CONTROL", Control, ""},
		{"FRAGMENT", Fragment, " \"<>`"},
		{"QUERY", Query, " \"#<>"},
		{"SPECIAL QUERY", SpecialQuery, " \"#<>'"},
		{"PATH", Path, " \"#<>?^{}`"},
		{"USER", User, " \"#<>?^{}`/:;=@[\\]|"},
		{"COMPONENT", Component, " \"#<>?^{}`/:;=@[\\]|$%&+,"},
		{"FORM", Form, " \"#<>?^{}`/:;=@[\\]|$%&+,!'()~"},
	} {
		for b := 0; b < 128; b++ {
			want := string(rune(b))
			if b < 32 || b > 126 || strings.Contains(c.in, want) {
				want = fmt.Sprintf("%%%02X", b)
			}
			if got := Encode(string(rune(b)), c.set); got != want {
				t.Errorf("%s: %q becomes %q, want %q", c.name, rune(b), got, want)
			}
		}
	}
}

func TestP3Encode(t *testing.T) {
	for _, c := range [][2]string{
		{"", ""}, {"a b", "a%20b"}, {"é", "%C3%A9"}, {"\u0080", "%C2%80"}, {"日本", "%E6%97%A5%E6%9C%AC"}, {"😀", "%F0%9F%98%80"},
		{"\xff", "%EF%BF%BD"}, {"\xf0\x9f", "%EF%BF%BD"}, {"\xed\xa0\x80", "%EF%BF%BD%EF%BF%BD%EF%BF%BD"}, {"%", "%"}, {"%2g%41", "%2g%41"},
	} {
		if got := Encode(c[0], Path); got != c[1] {
			t.Errorf("Encode(%q) is %q, want %q", c[0], got, c[1])
		}
	}
}

func TestP3Decode(t *testing.T) {
	for _, c := range [][2]string{
		{"", ""}, {"abc", "abc"}, {"%41%5a%5A", "AZZ"}, {"%fF%00%Aa", "\xff\x00\xaa"}, {"é%C3%A9", "éé"}, {"\xff", "\xff"},
		{"%", "%"}, {"%4", "%4"}, {"a%4", "a%4"}, {"%%41", "%A"}, {"%4%41", "%4A"}, {"%g0%0g", "%g0%0g"}, {"%2541", "%41"}, {"%/0%:0%@0%G0%`0", "%/0%:0%@0%G0%`0"}, {"+", "+"},
	} {
		if got := Decode(c[0]); got != c[1] {
			t.Errorf("Decode(%q) is %q, want %q", c[0], got, c[1])
		}
	}
}

func TestP5OfQuery(t *testing.T) {
	if OfQuery(true) != SpecialQuery || OfQuery(false) != Query {
		t.Errorf("P5: the sets of queries are %d and %d", OfQuery(true), OfQuery(false))
	}
}

package urls_test

import (
	"slices"
	"strings"
	"testing"
	"unicode/utf16"

	"urls/api"
	"urls/points"
	"urls/urls"
)

const tooLong = api.MaxIn + 1

// checkPairs looks whether all calls of P19 tell the same pairs, and these.
func checkPairs(t *testing.T, x *urls.URL, want []api.Pair) {
	t.Helper()
	got := x.Pairs()
	if !slices.Equal(got, want) || x.Size() != len(want) {
		t.Errorf("P17: the pairs of %q are %q (%d), want %q", x.Href(), got, x.Size(), want)
	}
	if len(got) != cap(got) || (got == nil) != (len(want) == 0) {
		t.Errorf("P1: Pairs of %q: %d of %d", x.Href(), len(got), cap(got))
	}
	for _, p := range want {
		checkName(t, x, p.Name, want)
	}
}

// checkName looks whether a name is answered for as the pairs have it.
func checkName(t *testing.T, x *urls.URL, n string, want []api.Pair) {
	t.Helper()
	values := []string{}
	for _, p := range want {
		if p.Name == points.Clean(n) && len(n) <= api.MaxIn {
			values = append(values, p.Value)
		}
	}
	got := x.Values(n)
	if !slices.Equal(got, values) || len(got) != cap(got) || (got == nil) != (len(values) == 0) {
		t.Errorf("P19: Values(%q) of %q: %q, want %q", n, x.Href(), got, values)
	}
	v, ok := x.Value(n)
	if ok != (len(values) > 0) || ok && v != values[0] || !ok && v != "" {
		t.Errorf("P19: Value(%q) of %q: %q, %v", n, x.Href(), v, ok)
	}
	for _, v := range values {
		if !x.Has(n, "", false) || x.Has(n, v, true) != (len(v) <= api.MaxIn) {
			t.Errorf("P19: Has(%q, %q) of %q", n, v, x.Href())
		}
	}
}

// list makes pairs of names and values in turn.
func list(texts ...string) []api.Pair {
	l := []api.Pair{}
	for i := 0; i+1 < len(texts); i += 2 {
		l = append(l, api.Pair{Name: texts[i], Value: texts[i+1]})
	}
	return l
}

func TestP17Reading(t *testing.T) {
	const r = "\uFFFD"
	for _, c := range []struct {
		s    string
		want []api.Pair
		text string
	}{
		{"http://h/", nil, ""}, {"http://h/?", nil, ""}, {"http://h/?#a=b", nil, ""}, {"http://h/?&&", nil, ""}, {"a:b", nil, ""}, {"a:b=c&d", nil, ""},
		{"http://h/?a+b=c%26&&d", list("a b", "c&", "d", ""), "a+b=c%26&d="}, {"http://h/?a=b#c&d", list("a", "b"), "a=b"}, {"a:b?c=d", list("c", "d"), "c=d"}, {"a://h?c&c", list("c", "", "c", ""), "c=&c="}, {"file:///x?=y", list("", "y"), "=y"}, {"http://u&a=b@h/x&c=d?e", list("e", ""), "e="},
		{"http://h/?=", list("", ""), "="}, {"http://h/?a=b=c&=&d=", list("a", "b=c", "", "", "d", ""), "a=b%3Dc&=&d="}, {"http://h/?a?b=?", list("a?b", "?"), "a%3Fb=%3F"},
		{"http://h/? a = b ", list(" a ", " b"), "+a+=+b"}, {"http://h/?é=\xff", list("é", r), "%C3%A9=" + "%EF%BF%BD"}, {"http://h/?'=\"", list("'", "\""), "%27=%22"}, {"a:?'=<", list("'", "<"), "%27=%3C"},
		{"http://h/?%C3\xa9", list(r+r, ""), "%EF%BF%BD%EF%BF%BD="}, {"http://h/?a\t=\nb\r", list("a", "b"), "a=b"}, {"http://h/?%\t41=%2\n6", list("A", "&"), "A=%26"}, {"http://h/?%09", list("\t", ""), "%09="},
	} {
		x := read(t, c.s)
		href := x.Href()
		checkPairs(t, x, c.want)
		if x.Text() != c.text || x.Href() != href {
			t.Errorf("P19: Text of %q is %q, want %q", c.s, x.Text(), c.text)
		}
	}
}

func TestP17Bases(t *testing.T) {
	for _, c := range []struct {
		s, base string
		want    []api.Pair
	}{
		{"", "http://h/?a=b#c", list("a", "b")}, {"#d", "http://h/?a=b", list("a", "b")}, {"#d", "a:b?c", list("c", "")}, {"?", "http://h/?a=b", nil}, {"x", "http://h/?a=b", nil}, {"?d=e", "http://h/?a=b", list("d", "e")}, {"g:?x", "http://h/?a", list("x", "")},
	} {
		x, e := urls.Parse(c.s, c.base, true)
		if e != api.OK || x == nil {
			t.Fatalf("P4: Parse(%q, %q): error %d", c.s, c.base, e)
		}
		checkPairs(t, x, c.want)
	}
}

// SetHref and SetSearch read the pairs anew; the other setters, and errors,
// leave them.
func TestP17Anew(t *testing.T) {
	for _, c := range []struct {
		name, s string
		want    []api.Pair
	}{
		{"search", "c=d", list("c", "d")}, {"search", "?c&+", list("c", "", " ", "")}, {"search", "??c", list("?c", "")}, {"search", "?", nil}, {"search", "", nil}, {"search", "\t", nil}, {"search", "\xff=#", list("\uFFFD", "#")}, {"search", strings.Repeat("x", tooLong), list("a", "b")},
		{"href", "x:?c=d", list("c", "d")}, {"href", "x:", nil}, {"href", "x:?", nil}, {"href", "x", list("a", "b")}, {"href", "?c", list("a", "b")}, {"href", "http://é/?c", list("a", "b")}, {"href", "x:?" + strings.Repeat("x", tooLong), list("a", "b")},
		{"protocol", "https", list("a", "b")}, {"username", "?c", list("a", "b")}, {"password", "?c", list("a", "b")}, {"host", "g?c", list("a", "b")}, {"hostname", "é", list("a", "b")}, {"port", "9?c", list("a", "b")}, {"pathname", "x?c", list("a", "b")}, {"hash", "?c", list("a", "b")}, {"hash", "", list("a", "b")},
	} {
		x := read(t, "http://h/?a=b#f")
		put(x, c.name, c.s)
		checkPairs(t, x, c.want)
	}
	x := read(t, "http://h/?a=b")
	x.Append("c", "d")
	x.SetPathname("x")
	x.SetHash("f")
	checkPairs(t, x, list("a", "b", "c", "d"))
	x.SetSearch("e")
	x.Append("f", "")
	checkPairs(t, x, list("e", "", "f", ""))
	if got := x.Href(); got != "http://h/x?e=&f=#f" {
		t.Errorf("P18: the query behind SetSearch and Append: %q", got)
	}
}

// step is one call of P18 and what it makes of a URL.
type step struct {
	call, n, v string
	want       string
}

// do makes the call of a step.
func do(x *urls.URL, c step) api.Errno {
	switch c.call {
	case "append":
		return x.Append(c.n, c.v)
	case "delete":
		return x.Delete(c.n, c.v, false)
	case "delete value":
		return x.Delete(c.n, c.v, true)
	case "set":
		return x.Set(c.n, c.v)
	}
	x.Sort()
	return api.OK
}

// checkSteps does each step to the same URL as it was read.
func checkSteps(t *testing.T, from string, steps []step) {
	t.Helper()
	for _, c := range steps {
		x := read(t, from)
		e := do(x, c)
		if e != api.OK || x.Href() != c.want {
			t.Errorf("P18: %q, %s %q %q: error %d, %q, want %q", from, c.call, c.n, c.v, e, x.Href(), c.want)
		}
		if again := read(t, x.Href()); !slices.Equal(again.Pairs(), x.Pairs()) || again.Text() != x.Text() {
			t.Errorf("P18: %q is read as %q, and had %q", x.Href(), again.Pairs(), x.Pairs())
		}
	}
}

func TestP18Append(t *testing.T) {
	checkSteps(t, "http://h/?a+b=c%26&&d#f", []step{
		{"append", "~", "é", "http://h/?a+b=c%26&d=&%7E=%C3%A9#f"}, {"append", "", "", "http://h/?a+b=c%26&d=&=#f"}, {"append", "d", "", "http://h/?a+b=c%26&d=&d=#f"}, {"append", "a b", "c&", "http://h/?a+b=c%26&d=&a+b=c%26#f"}, {"append", "\xff", "\xf0\x9f\xed\xa0\x80", "http://h/?a+b=c%26&d=&%EF%BF%BD=%EF%BF%BD%EF%BF%BD%EF%BF%BD%EF%BF%BD#f"}, {"append", "\t\n", "%41+#", "http://h/?a+b=c%26&d=&%09%0A=%2541%2B%23#f"},
	})
	checkSteps(t, "http://h", []step{{"append", "a", "b", "http://h/?a=b"}, {"append", "", "", "http://h/?="}})
	checkSteps(t, "http://h/?", []step{{"append", "a", "b", "http://h/?a=b"}})
	checkSteps(t, "http://h/?&&a&", []step{{"append", "b", "", "http://h/?a=&b="}})
	checkSteps(t, "a:b  #f", []step{{"append", "'", "", "a:b  ?%27=#f"}})
	checkSteps(t, "a:b", []step{{"append", "a", " ", "a:b?a=+"}})
}

func TestP18Delete(t *testing.T) {
	checkSteps(t, "http://h/?a=1&b=2&a=3&%FF&a=1#f", []step{
		{"delete", "a", "", "http://h/?b=2&%EF%BF%BD=#f"}, {"delete", "a", "3", "http://h/?b=2&%EF%BF%BD=#f"}, {"delete", "a", "no", "http://h/?b=2&%EF%BF%BD=#f"}, {"delete", "b", "", "http://h/?a=1&a=3&%EF%BF%BD=&a=1#f"}, {"delete", "\xfe", "", "http://h/?a=1&b=2&a=3&a=1#f"}, {"delete", "\uFFFD", "", "http://h/?a=1&b=2&a=3&a=1#f"},
		{"delete value", "a", "1", "http://h/?b=2&a=3&%EF%BF%BD=#f"}, {"delete value", "a", "3", "http://h/?a=1&b=2&%EF%BF%BD=&a=1#f"}, {"delete value", "\xff", "", "http://h/?a=1&b=2&a=3&a=1#f"},
		// What is not there goes, and the query is written anew all the same.
		{"delete", "A", "", "http://h/?a=1&b=2&a=3&%EF%BF%BD=&a=1#f"}, {"delete", "", "", "http://h/?a=1&b=2&a=3&%EF%BF%BD=&a=1#f"}, {"delete value", "a", "2", "http://h/?a=1&b=2&a=3&%EF%BF%BD=&a=1#f"}, {"delete value", "a", "", "http://h/?a=1&b=2&a=3&%EF%BF%BD=&a=1#f"},
	})
	checkSteps(t, "http://h/?a=%FF&a=%C3", []step{{"delete value", "a", "\x80", "http://h/"}, {"delete value", "a", "\uFFFD", "http://h/"}, {"delete", "a", "", "http://h/"}})
	checkSteps(t, "http://h/?a'b&&", []step{{"delete", "z", "", "http://h/?a%27b="}, {"delete", "a'b", "", "http://h/"}})
	checkSteps(t, "http://h/?=&a", []step{{"delete", "", "", "http://h/?a="}, {"delete value", "", "", "http://h/?a="}, {"delete value", "a", "", "http://h/?="}})
	checkSteps(t, "http://h/#f", []step{{"delete", "a", "", "http://h/#f"}})
	checkSteps(t, "http://h/?", []step{{"delete", "a", "", "http://h/"}})
	checkSteps(t, "http://h/?&&#", []step{{"delete", "", "", "http://h/#"}})
}

func TestP18Set(t *testing.T) {
	checkSteps(t, "http://h/?a=1&b=2&a=3&%FF&a=1#f", []step{
		{"set", "a", "1", "http://h/?a=1&b=2&%EF%BF%BD=#f"}, {"set", "a", "3", "http://h/?a=3&b=2&%EF%BF%BD=#f"}, {"set", "a", "\xff ", "http://h/?a=%EF%BF%BD+&b=2&%EF%BF%BD=#f"}, {"set", "b", "", "http://h/?a=1&b=&a=3&%EF%BF%BD=&a=1#f"}, {"set", "\xc3", "é", "http://h/?a=1&b=2&a=3&%EF%BF%BD=%C3%A9&a=1#f"},
		{"set", "c", "4", "http://h/?a=1&b=2&a=3&%EF%BF%BD=&a=1&c=4#f"}, {"set", "", "", "http://h/?a=1&b=2&a=3&%EF%BF%BD=&a=1&=#f"}, {"set", "A", "4", "http://h/?a=1&b=2&a=3&%EF%BF%BD=&a=1&A=4#f"},
	})
	checkSteps(t, "http://h/?&=&a&=1", []step{{"set", "", "x", "http://h/?=x&a="}, {"set", "a", "", "http://h/?=&a=&=1"}})
	checkSteps(t, "http://h/", []step{{"set", "a", "b", "http://h/?a=b"}})
	checkSteps(t, "a:b  #", []step{{"set", "a", "b", "a:b  ?a=b#"}})
}

func TestP18Sort(t *testing.T) {
	for _, c := range [][2]string{
		{"http://h/?z=1&%EF%BD%9E=2&%F0%9F%98%80=3&z=0", "http://h/?z=1&z=0&%F0%9F%98%80=3&%EF%BD%9E=2"}, {"http://h/?b&a&B&A&ab&=&aa", "http://h/?=&A=&B=&a=&aa=&ab=&b="}, {"http://h/?b=1&a=3&b=0&a=2&a=1#f", "http://h/?a=3&a=2&a=1&b=1&b=0#f"}, {"http://h/?%F4%8F%BF%BF&%EE%80%80&%ED%9F%BF&%F0%90%80%80&%EF%BF%BF", "http://h/?%ED%9F%BF=&%F0%90%80%80=&%F4%8F%BF%BF=&%EE%80%80=&%EF%BF%BF="},
		{"http://h/?a%F0%9F%98%80&a%EF%BD%9E&ab&a", "http://h/?a=&ab=&a%F0%9F%98%80=&a%EF%BD%9E="}, {"http://h/?%FF&%F0%9F%98%80&%C3%A9", "http://h/?%C3%A9=&%F0%9F%98%80=&%EF%BF%BD="}, {"http://h/?a&a=&&a=1", "http://h/?a=&a=&a=1"}, {"http://h/?%00&+&a", "http://h/?%00=&+=&a="},
		{"http://h/?", "http://h/"}, {"http://h/?&#f", "http://h/#f"}, {"http://h/", "http://h/"}, {"http://h/?'", "http://h/?%27="}, {"a:b?'", "a:b?%27="},
	} {
		checkSteps(t, c[0], []step{{"sort", "", "", c[1]}})
	}
}

// A query that goes takes blanks at the end of an opaque path with it, unless
// a fragment follows them.
func TestP16BlanksBehindPairs(t *testing.T) {
	checkSteps(t, "a:b  ?x", []step{{"delete", "x", "", "a:b"}, {"delete value", "x", "", "a:b"}, {"delete", "y", "", "a:b  ?x="}, {"sort", "", "", "a:b  ?x="}, {"set", "x", "", "a:b  ?x="}})
	checkSteps(t, "a:b  ?", []step{{"delete", "x", "", "a:b"}, {"sort", "", "", "a:b"}, {"append", "x", "", "a:b  ?x="}, {"set", "x", "", "a:b  ?x="}})
	checkSteps(t, "a: ?&", []step{{"sort", "", "", "a:"}})
	checkSteps(t, "a:b  ?x#", []step{{"delete", "x", "", "a:b  #"}})
	checkSteps(t, "a:b  #f", []step{{"delete", "x", "", "a:b  #f"}, {"sort", "", "", "a:b  #f"}})
	checkSteps(t, "http://h/b ?x", []step{{"delete", "x", "", "http://h/b%20"}})
	// An error leaves the blanks, and the empty query.
	x := read(t, "a:b  ?")
	if e := x.Delete("", strings.Repeat("x", tooLong), false); e != api.ErrLong || x.Href() != "a:b  ?" {
		t.Errorf("P1: error %d, %q", e, x.Href())
	}
}

func TestP18Long(t *testing.T) {
	for _, from := range []string{"http://h/?a'=1&&b#f", "http://h/", "a:b  ?", "http://h/?" + strings.Repeat("a&", 20)} {
		for _, l := range []string{strings.Repeat("a", tooLong), strings.Repeat("é", 81), strings.Repeat("\xff", tooLong), strings.Repeat("a", 1000)} {
			for _, c := range []step{{call: "append", n: l}, {call: "append", v: l}, {call: "delete", n: l}, {call: "delete", v: l}, {call: "delete value", n: l}, {call: "delete value", n: "a'", v: l}, {call: "set", n: l}, {call: "set", n: "a'", v: l}, {call: "append", n: l, v: l}} {
				x := read(t, from)
				if e := do(x, c); e != api.ErrLong || x.Href() != read(t, from).Href() {
					t.Errorf("P18: %q, %s: error %d, %q", from, c.call, e, x.Href())
				}
			}
		}
	}
	most := strings.Repeat("x", api.MaxIn)
	x := read(t, "a:")
	for _, c := range []step{{"append", most, most, "a:?" + most + "=" + most}, {"set", most, most[1:], "a:?" + most + "=" + most[1:]}, {"delete value", most, most, "a:?" + most + "=" + most[1:]}, {"delete", most, most, "a:"}} {
		if e := do(x, c); e != api.OK || x.Href() != c.want {
			t.Errorf("P18: %s of %d bytes: error %d, %q", c.call, api.MaxIn, e, x.Href())
		}
	}
}

func TestP18Full(t *testing.T) {
	x := read(t, "a:b")
	for i := 0; i < api.MaxPairs; i++ {
		if e := x.Append("a", string(rune('a'+i))); e != api.OK || x.Size() != i+1 {
			t.Fatalf("P18: Append: error %d, %d pairs", e, x.Size())
		}
	}
	full := x.Href()
	for _, c := range []step{{call: "append", n: "a"}, {call: "append", n: "z"}, {call: "set", n: "z"}, {call: "set"}} {
		if e := do(x, c); e != api.ErrFull || x.Href() != full || x.Size() != api.MaxPairs {
			t.Errorf("P18: %s to a full list: error %d, %q", c.call, e, x.Href())
		}
	}
	x.Delete("a", "c", true)
	if e := x.Set("z", "1"); e != api.OK || x.Size() != api.MaxPairs {
		t.Errorf("P18: Set where one went: error %d, %d pairs", e, x.Size())
	}
	if e := x.Set("z", "2"); e != api.OK || x.Size() != api.MaxPairs || !x.Has("z", "2", true) {
		t.Errorf("P18: Set of a name of a full list: error %d, %q", e, x.Text())
	}
	if e := x.Set("a", "1"); e != api.OK || x.Href() != "a:b?a=1&z=2" {
		t.Errorf("P18: Set of many: error %d, %q", e, x.Href())
	}
}

// A text may have more pairs than may be added to; the other calls bear them.
func TestP18MoreThanFull(t *testing.T) {
	text := "a:b?" + strings.Repeat("a&", 70) + "'"
	x := read(t, text)
	if x.Size() != 71 || len(x.Pairs()) != 71 || len(x.Values("a")) != 70 {
		t.Errorf("P17: %d pairs", x.Size())
	}
	if e := x.Append("b", ""); e != api.ErrFull || x.Href() != text {
		t.Errorf("P18: Append to 71: error %d, %q", e, x.Href())
	}
	if e := x.Set("b", ""); e != api.ErrFull || x.Href() != text {
		t.Errorf("P18: Set to 71: error %d, %q", e, x.Href())
	}
	if e := x.Append(strings.Repeat("b", tooLong), ""); e != api.ErrLong {
		t.Errorf("P18: a long Append to 71: error %d", e)
	}
	if e := x.Delete("b", "", false); e != api.OK || x.Size() != 71 || x.Href() == text {
		t.Errorf("P18: Delete of nothing: error %d, %q", e, x.Href())
	}
	x.Sort()
	if e := x.Set("'", "1"); e != api.OK || x.Href() != "a:b?%27=1&"+strings.Repeat("a=&", 69)+"a=" {
		t.Errorf("P18: Sort and Set of 71: error %d, %q", e, x.Href())
	}
	if e := x.Set("a", ""); e != api.OK || x.Href() != "a:b?%27=1&a=" {
		t.Errorf("P18: Set of 70: error %d, %q", e, x.Href())
	}
}

func TestP19Asked(t *testing.T) {
	x := read(t, "http://h/?a=1&b=2&a=3&%FF=%C3&=&a=1&c")
	pairs := list("a", "1", "b", "2", "a", "3", "\uFFFD", "\uFFFD", "", "", "a", "1", "c", "")
	checkPairs(t, x, pairs)
	for _, n := range []string{"A", "z", "a=1", "a ", "\xff\xff", "%FF", "1"} {
		checkName(t, x, n, pairs)
	}
	for _, c := range []struct {
		n, v   string
		valued bool
		want   bool
	}{
		{"a", "", false, true}, {"a", "3", true, true}, {"a", "2", true, false}, {"a", "", true, false}, {"a", "2", false, true}, {"", "", true, true}, {"", "x", true, false}, {"c", "", true, true}, {"z", "", false, false}, {"\xfe", "", false, true}, {"\xfe", "\x80", true, true}, {"\uFFFD", "\uFFFD", true, true}, {"\xfe", "\x80\x80", true, false}, {"A", "1", true, false},
	} {
		if got := x.Has(c.n, c.v, c.valued); got != c.want {
			t.Errorf("P19: Has(%q, %q, %v) is %v", c.n, c.v, c.valued, got)
		}
	}
	if v, ok := x.Value("\xff"); v != "\uFFFD" || !ok {
		t.Errorf("P19: Value of no code point: %q, %v", v, ok)
	}
	if got := x.Text(); got != "a=1&b=2&a=3&%EF%BF%BD=%EF%BF%BD&=&a=1&c=" {
		t.Errorf("P19: Text is %q", got)
	}
}

// Of what is too long there is nothing, even where a pair has become so long.
func TestP19Long(t *testing.T) {
	x := read(t, "a:")
	short := strings.Repeat("\xff", api.MaxIn/2)
	x.Append(short, short)
	name := strings.Repeat("\uFFFD", api.MaxIn/2)
	if v, ok := x.Value(short); v != name || !ok || !x.Has(short, short, true) || !slices.Equal(x.Values(short), []string{name}) {
		t.Errorf("P19: %d bytes: %q, %v", len(short), v, ok)
	}
	if v, ok := x.Value(name); v != "" || ok || x.Values(name) != nil || x.Has(name, "", false) {
		t.Errorf("P19: %d bytes: %q, %v", len(name), v, ok)
	}
	if x.Has(short, name, true) || x.Has(short, name, false) || x.Has(name, name, true) {
		t.Errorf("P19: Has of %d bytes", len(name))
	}
	most := strings.Repeat("x", api.MaxIn)
	x.Append(most, most)
	if !x.Has(most, most, true) || x.Has(most, most+"x", false) || x.Has(most+"x", most, false) {
		t.Errorf("P19: Has of %d bytes", len(most))
	}
	checkName(t, x, most, list(most, most))
}

func TestP1PairsApart(t *testing.T) {
	const from = "http://h/?a=1&b=2&a=3"
	x := read(t, from)
	y, _ := urls.Parse("#f", from, true)
	twin := *x
	l, v := x.Pairs(), x.Values("a")
	second := x.Pairs()
	for i := range l {
		l[i] = api.Pair{Name: "w", Value: "w"}
	}
	v[0], v[1] = "w", "w"
	if !slices.Equal(second, list("a", "1", "b", "2", "a", "3")) {
		t.Errorf("P1: two lists have something in common: %q", second)
	}
	checkPairs(t, x, list("a", "1", "b", "2", "a", "3"))
	steps := []step{{"append", "c", "", "http://h/?a=1&b=2&a=3&c="}, {"set", "a", "4", "http://h/?a=4&b=2&c="}, {"append", "0", "", "http://h/?a=4&b=2&c=&0="}, {"sort", "", "", "http://h/?0=&a=4&b=2&c="}, {"delete", "b", "", "http://h/?0=&a=4&c="}}
	for _, c := range steps {
		if e := do(x, c); e != api.OK || x.Href() != c.want || x.Get().Search != "?"+x.Text() {
			t.Errorf("P18: %s: error %d, %q", c.call, e, x.Href())
		}
	}
	if twin.Href() != from || y.Href() != from+"#f" || !slices.Equal(second, list("a", "1", "b", "2", "a", "3")) {
		t.Errorf("P1: others changed: %q, %q, %q", twin.Href(), y.Href(), second)
	}
	checkPairs(t, &twin, list("a", "1", "b", "2", "a", "3"))
	checkPairs(t, y, list("a", "1", "b", "2", "a", "3"))
}

// Parse answers nil with an error: the calls of the pairs bear that, and a URL
// that was never read.
func TestP1PairsOfNoURL(t *testing.T) {
	for _, call := range []string{"append", "delete", "delete value", "set", "sort"} {
		var none *urls.URL
		if e := do(none, step{call: call, n: "a"}); e != api.OK {
			t.Errorf("P1: %s of nil: error %d", call, e)
		}
		if e := do(none, step{call: call, n: strings.Repeat("a", tooLong)}); (e == api.ErrLong) != (call != "sort") {
			t.Errorf("P1: %s of nil with a long name: error %d", call, e)
		}
		checkPairs(t, none, nil)
		checkName(t, none, "a", nil)
		if none.Text() != "" || none.Has("a", "", false) {
			t.Errorf("P1: nil has pairs: %q", none.Text())
		}
		var empty urls.URL
		do(&empty, step{call: call, n: "a"})
		if added := call == "append" || call == "set"; added != empty.Has("a", "", true) {
			t.Errorf("P1: %s of an empty URL: %q", call, empty.Text())
		}
	}
}

// model does to a list what P18 says of the call.
func model(l []api.Pair, c step) ([]api.Pair, api.Errno) {
	n, v := points.Clean(c.n), points.Clean(c.v)
	at := slices.IndexFunc(l, func(p api.Pair) bool { return p.Name == n })
	switch {
	case c.call == "sort":
		l = slices.Clone(l)
		slices.SortStableFunc(l, byUnits)
		return l, api.OK
	case len(c.n) > api.MaxIn || len(c.v) > api.MaxIn:
		return l, api.ErrLong
	case c.call == "delete", c.call == "delete value":
		return slices.DeleteFunc(slices.Clone(l), func(p api.Pair) bool {
			return p.Name == n && (c.call == "delete" || p.Value == v)
		}), api.OK
	case c.call == "append" || at < 0:
		if len(l) >= api.MaxPairs {
			return l, api.ErrFull
		}
		return append(slices.Clone(l), api.Pair{Name: n, Value: v}), api.OK
	}
	l = slices.Clone(l)
	l[at].Value = v
	rest := slices.DeleteFunc(slices.Clone(l[at+1:]), func(p api.Pair) bool { return p.Name == n })
	return append(l[:at+1:at+1], rest...), api.OK
}

// byUnits compares the names of two pairs as UTF-16 units.
func byUnits(a api.Pair, b api.Pair) int {
	return slices.Compare(utf16.Encode([]rune(a.Name)), utf16.Encode([]rune(b.Name)))
}

func FuzzP1Pairs(f *testing.F) {
	calls := []string{"append", "delete", "delete value", "set", "sort"}
	for i := range calls {
		f.Add("http://h/?a+b=c%26&&d#f", i, "d", "")
		f.Add("a:b  ?%FF=%zz&=", i, "\xff", "é ")
		f.Add("file:?"+strings.Repeat("a&", 20), i, "a", "=&+%")
	}
	f.Fuzz(func(t *testing.T, from string, which int, n string, v string) {
		x, _ := urls.Parse(from, "", false)
		if x == nil || which < 0 || which >= len(calls) {
			return
		}
		c := step{call: calls[which], n: n, v: v}
		before, href := x.Pairs(), x.Href()
		checkPairs(t, x, before)
		checkName(t, x, n, before)
		want, errno := model(before, c)
		e := do(x, c)
		if e != errno || e != api.OK && x.Href() != href {
			t.Fatalf("P1: %q, %s %q %q: error %d, %q", from, c.call, n, v, e, x.Href())
		}
		if e != api.OK {
			return
		}
		checkPairs(t, x, want)
		ahead, _, _ := strings.Cut(x.Href(), "#")
		_, query, found := strings.Cut(ahead, "?")
		if query != x.Text() || found != (len(want) > 0) {
			t.Errorf("P18: %q, %s %q %q: %q, %q", from, c.call, n, v, x.Text(), x.Href())
		}
		if again, e := urls.Parse(x.Href(), "", false); e == api.OK && !slices.Equal(again.Pairs(), want) {
			t.Errorf("P18: %q is read with the pairs %q", x.Href(), again.Pairs())
		}
	})
}

package pairs

import (
	"slices"
	"sort"
	"testing"
	"unicode/utf16"
	"unicode/utf8"

	"urls/api"
	"urls/points"
)

// of makes a list of names and values in turn.
func of(texts ...string) []api.Pair {
	list := []api.Pair{}
	for i := 0; i+1 < len(texts); i += 2 {
		list = append(list, api.Pair{Name: texts[i], Value: texts[i+1]})
	}
	return list
}

func TestP17Read(t *testing.T) {
	const r = "\uFFFD"
	for _, c := range []struct {
		query string
		want  []api.Pair
	}{
		{"", nil}, {"&", nil}, {"&&&", nil}, {"a", of("a", "")}, {"a=", of("a", "")}, {"=a", of("", "a")}, {"=", of("", "")}, {"==", of("", "=")}, {"a=b=c", of("a", "b=c")},
		{"a=b&c=d", of("a", "b", "c", "d")}, {"&a&&b&", of("a", "", "b", "")}, {"a&a&a=1", of("a", "", "a", "", "a", "1")}, {"=&=", of("", "", "", "")}, {"a;b=c", of("a;b", "c")}, {"?a=?", of("?a", "?")},
		{"+a+=+b++", of(" a ", " b  ")}, {"%2B=%2b", of("+", "+")}, {"%20=%26%3D", of(" ", "&=")}, {"%3D=%26&x", of("=", "&", "x", "")}, {"a%00b=%0A", of("a\x00b", "\n")},
		{"%=%4&%g1=%1g", of("%", "%4", "%g1", "%1g")}, {"%2541=%252B", of("%41", "%2B")}, {"%+1=%4+1", of("% 1", "%4 1")}, {"%%41", of("%A", "")},
		{"%C3%A9=%e6%97%a5", of("é", "日")}, {"%ff=%F0%9F", of(r, r)}, {"%ED%A0%80=%C0%80", of(r+r+r, r+r)}, {"%F0%9F%98%80", of("😀", "")}, {"%C3=%A9", of(r, r)}, {"%C3+%A9", of(r+" "+r, "")}, {"%C3&%A9", of(r, "", r, "")}, {"%EF%BB%BFa", of("\ufeffa", "")},
	} {
		got := Read(c.query)
		if !slices.Equal(got, c.want) || cap(got) != len(got) || (got == nil) != (len(c.want) == 0) {
			t.Errorf("P17: Read(%q) is %q, want %q", c.query, got, c.want)
		}
	}
}

func TestP19Write(t *testing.T) {
	for _, c := range []struct {
		list []api.Pair
		want string
	}{
		{nil, ""}, {of("", ""), "="}, {of("a", ""), "a="}, {of("", "a"), "=a"}, {of("a", "b", "c", "d"), "a=b&c=d"}, {of("", "", "", ""), "=&="},
		{of(" a  ", " "), "+a++=+"}, {of("+", "%20"), "%2B=%2520"}, {of("&=", "?#"), "%26%3D=%3F%23"}, {of("azAZ09*-._", ""), "azAZ09*-._="},
		{of(" !\"#$%&'()+,/:;<=>?@[\\]^`{|}~", ""), "+%21%22%23%24%25%26%27%28%29%2B%2C%2F%3A%3B%3C%3D%3E%3F%40%5B%5C%5D%5E%60%7B%7C%7D%7E="},
		{of("\x00\t\n\r\x1f\x7f", "é😀\uFFFD"), "%00%09%0A%0D%1F%7F=%C3%A9%F0%9F%98%80%EF%BF%BD"},
	} {
		if got := Write(c.list); got != c.want {
			t.Errorf("P19: Write(%q) is %q, want %q", c.list, got, c.want)
		}
	}
}

// untouched gives a list with spare room to a call, and looks whether that
// wrote into it.
func untouched(t *testing.T, name string, call func(list []api.Pair) []api.Pair, want []api.Pair) {
	t.Helper()
	room := of("b", "1", "a", "2", "b", "3", "x", "y", "x", "y")
	if got := call(room[:3]); !slices.Equal(got, want) {
		t.Errorf("P18: %s is %q, want %q", name, got, want)
	} else if len(got) > 0 {
		got[0].Name = "written"
	}
	if !slices.Equal(room, of("b", "1", "a", "2", "b", "3", "x", "y", "x", "y")) {
		t.Errorf("P1: %s left %q", name, room)
	}
}

func TestP18Untouched(t *testing.T) {
	untouched(t, "Append", func(l []api.Pair) []api.Pair { l, _ = Append(l, "c", "4"); return l }, of("b", "1", "a", "2", "b", "3", "c", "4"))
	untouched(t, "Delete", func(l []api.Pair) []api.Pair { return Delete(l, "b", "", false) }, of("a", "2"))
	untouched(t, "Delete of a value", func(l []api.Pair) []api.Pair { return Delete(l, "b", "1", true) }, of("a", "2", "b", "3"))
	untouched(t, "Delete of nothing", func(l []api.Pair) []api.Pair { return Delete(l, "c", "", false) }, of("b", "1", "a", "2", "b", "3"))
	untouched(t, "Set", func(l []api.Pair) []api.Pair { l, _ = Set(l, "b", "4"); return l }, of("b", "4", "a", "2"))
	untouched(t, "Set of a new name", func(l []api.Pair) []api.Pair { l, _ = Set(l, "c", "4"); return l }, of("b", "1", "a", "2", "b", "3", "c", "4"))
	untouched(t, "Sort", Sort, of("a", "2", "b", "1", "b", "3"))
}

// Names and values join the list as code points.
func TestP18CodePoints(t *testing.T) {
	const r = "\uFFFD"
	if got, e := Append(of("a", ""), "\xff", "\xf0\x9f"); e != api.OK || !slices.Equal(got, of("a", "", r, r)) {
		t.Errorf("P18: Append: error %d, %q", e, got)
	}
	if got, e := Set(of("a", "", r, "1", r, ""), "\xfe", "\xc0\x80"); e != api.OK || !slices.Equal(got, of("a", "", r, r+r)) {
		t.Errorf("P18: Set: error %d, %q", e, got)
	}
	if got, e := Set(nil, "\xc3", "\xc3"); e != api.OK || !slices.Equal(got, of(r, r)) {
		t.Errorf("P18: Set of a new name: error %d, %q", e, got)
	}
	if got := Delete(of(r, r, r, "a"), "\x80", "\xff", true); !slices.Equal(got, of(r, "a")) {
		t.Errorf("P18: Delete: %q", got)
	}
}

func TestP18Full(t *testing.T) {
	list := []api.Pair{}
	for i := 0; i < api.MaxPairs+2; i++ {
		more, e := Append(list, "a", "b")
		if full := i >= api.MaxPairs; full != (e == api.ErrFull) || full && more != nil {
			t.Errorf("P18: Append to %d: error %d, %q", i, e, more)
		}
		if more, e := Set(list, "z", "b"); (i >= api.MaxPairs) != (e == api.ErrFull) || e != api.OK && more != nil {
			t.Errorf("P18: Set of a new name, to %d: error %d", i, e)
		}
		if more, e := Set(list, "a", "c"); e != api.OK || len(more) != 1 || more[0] != (api.Pair{Name: "a", Value: "c"}) {
			t.Errorf("P18: Set of a name among %d: error %d, %q", i, e, more)
		}
		list = append(list, api.Pair{Name: "a", Value: "b"})
	}
}

// byUnits compares names as P18 says it, from their UTF-16 units.
func byUnits(a string, b string) bool {
	return slices.Compare(utf16.Encode([]rune(a)), utf16.Encode([]rune(b))) < 0
}

func TestP18Order(t *testing.T) {
	edges := []rune{0, 1, 'a', 'b', 0x7f, 0x80, 0x7ff, 0x800, 0xcfff, 0xd000, 0xd7ff, 0xe000, 0xefff, 0xf000, 0xfffd, 0xffff, 0x10000, 0x103ff, 0x10400, 0x3ffff, 0x40000, 0xfffff, 0x100000, 0x10ffff}
	names := []string{""}
	for _, x := range edges {
		names = append(names, string(x))
		for _, y := range edges {
			names = append(names, string(x)+string(y))
		}
	}
	for _, a := range names {
		for _, b := range names {
			if got := ahead(a, b); got != byUnits(a, b) {
				t.Errorf("P18: %q ahead of %q: %v", a, b, got)
			}
		}
	}
}

func TestP18SortKeepsOrder(t *testing.T) {
	// Names from a short list, in all orders of six; values tell where they were.
	for n := 0; n < 4*4*4*4*4*4; n++ {
		list := []api.Pair{}
		for i, k := 0, n; i < 6; i, k = i+1, k/4 {
			list = append(list, api.Pair{Name: []string{"", "a", "\U0001F600", "\uFF5E"}[k%4], Value: string(rune('0' + i))})
		}
		want := slices.Clone(list)
		sort.SliceStable(want, func(i, j int) bool { return byUnits(want[i].Name, want[j].Name) })
		if got := Sort(list); !slices.Equal(got, want) {
			t.Fatalf("P18: Sort(%q) is %q, want %q", list, got, want)
		}
	}
	if got := Sort(nil); len(got) != 0 {
		t.Errorf("P18: Sort of none is %q", got)
	}
}

func TestP19Find(t *testing.T) {
	list := of("a", "1", "", "2", "a", "3", "\uFFFD", "4", "a", "1", "e", "")
	for _, c := range []struct {
		n    string
		want []string
	}{
		{"a", []string{"1", "3", "1"}}, {"", []string{"2"}}, {"\uFFFD", []string{"4"}}, {"\xff", []string{"4"}}, {"\xf0\x9f", []string{"4"}}, {"e", []string{""}}, {"A", nil}, {"b", nil}, {"a ", nil}, {"\xff\xff", nil},
	} {
		got := Values(list, c.n)
		if !slices.Equal(got, c.want) || cap(got) != len(got) || (got == nil) != (c.want == nil) {
			t.Errorf("P19: Values(%q) is %q, want %q", c.n, got, c.want)
		}
		v, ok := Value(list, c.n)
		if ok != (c.want != nil) || ok && v != c.want[0] || !ok && v != "" {
			t.Errorf("P19: Value(%q) is %q, %v", c.n, v, ok)
		}
		for _, v := range []string{"", "1", "2", "3", "4"} {
			if Has(list, c.n, v, true) != slices.Contains(c.want, v) || Has(list, c.n, v, false) != (c.want != nil) {
				t.Errorf("P19: Has(%q, %q)", c.n, v)
			}
		}
	}
}

// What is written is read as it was, so that nothing but the query need be
// kept.
func FuzzP17WrittenAndRead(f *testing.F) {
	f.Add("a b", "c&", "", "=")
	f.Add("%", "+%20", "\xff", "\U0001F600")
	f.Fuzz(func(t *testing.T, n1 string, v1 string, n2 string, v2 string) {
		if len(n1+v1+n2+v2) > 4*api.MaxIn {
			return
		}
		list := []api.Pair{}
		for _, p := range of(n1, v1, n2, v2) {
			list = append(list, api.Pair{Name: points.Clean(p.Name), Value: points.Clean(p.Value)})
		}
		text := Write(of(n1, v1, n2, v2))
		if got := Read(text); !slices.Equal(got, list) {
			t.Errorf("P17: %q is written %q and read %q", list, text, got)
		}
		for _, p := range Read(n1) {
			if !utf8.ValidString(p.Name) || !utf8.ValidString(p.Value) {
				t.Errorf("P17: Read(%q) has %q", n1, p)
			}
		}
	})
}

package paths

import (
	"slices"
	"testing"
)

func TestDrive(t *testing.T) {
	for _, s := range []string{"a:", "z|", "A|", "Z:"} {
		if !Drive(s) {
			t.Errorf("%q is a drive", s)
		}
	}
	for _, s := range []string{"", "a", ":", "::", "1:", "@:", "[:", "`:", "{:", "ab", "a:b", "a:/", "a%7C", "é:", "a;"} {
		if Drive(s) {
			t.Errorf("%q is no drive", s)
		}
	}
}

func TestP9Segments(t *testing.T) {
	for _, c := range []struct {
		scheme, text string
		want         []string
	}{
		{"http", "", []string{""}}, {"a", "", []string{""}}, {"http", "/", []string{"", ""}}, {"http", "a//b", []string{"a", "", "b"}},
		{"http", `a\b`, []string{"a", "b"}}, {"a", `a\b`, []string{`a\b`}}, {"file", `a\b`, []string{"a", "b"}},
		{"a", ".", []string{""}}, {"a", "..", []string{""}}, {"a", "./x", []string{"x"}}, {"a", "../x", []string{"x"}}, {"a", "../../x/..", []string{""}},
		{"a", "x/.", []string{"x", ""}}, {"a", "x/y/..", []string{"x", ""}}, {"a", "x/y/../z", []string{"x", "z"}}, {"a", "x//..", []string{"x", ""}}, {"a", "x/./y", []string{"x", "y"}},
		{"a", "x/%2e/%2E/y", []string{"x", "y"}}, {"a", "x/.%2e/y", []string{"y"}}, {"a", "x/%2E./y", []string{"y"}}, {"a", "x/%2e%2E/y", []string{"y"}},
		{"a", ".../.%2e./%2e%2e%2e", []string{"...", ".%2e.", "%2e%2e%2e"}}, {"a", ".x/x./%2ex/%2/%2f/%3e/.%2/2e", []string{".x", "x.", "%2ex", "%2", "%2f", "%3e", ".%2", "2e"}},
		{"a", " \"<>`{}^?#é|", []string{"%20%22%3C%3E%60%7B%7D%5E%3F%23%C3%A9|"}},
	} {
		if got := Read(c.text, c.scheme); !slices.Equal(got, c.want) {
			t.Errorf("P9: %q of %s is %q, want %q", c.text, c.scheme, got, c.want)
		}
	}
}

func TestP9Drives(t *testing.T) {
	for _, c := range []struct {
		scheme, text string
		want         []string
	}{
		{"file", "C|", []string{"C:"}}, {"file", "c:/x", []string{"c:", "x"}}, {"file", "C|x", []string{"C|x"}}, {"file", "x/C|", []string{"x", "C|"}}, {"file", "/C|", []string{"", "C|"}}, {"file", "./C|", []string{"C:"}}, {"file", "x/../C|", []string{"C:"}},
		{"file", "C|/..", []string{"C:", ""}}, {"file", "C:/../../x", []string{"C:", "x"}}, {"file", "C:/x/..", []string{"C:", ""}}, {"file", "C:/D:/..", []string{"C:", ""}}, {"file", "x/C:/..", []string{"x", ""}}, {"file", "1:/..", []string{""}}, {"file", "C%7C/..", []string{""}}, {"file", "C:x/..", []string{""}},
		{"http", "C|/x", []string{"C|", "x"}}, {"http", "C:/..", []string{""}}, {"a", "C:/../x", []string{"x"}},
	} {
		if got := Read(c.text, c.scheme); !slices.Equal(got, c.want) {
			t.Errorf("P9: %q of %s is %q, want %q", c.text, c.scheme, got, c.want)
		}
	}
}

func TestP7Beside(t *testing.T) {
	for _, c := range []struct {
		scheme string
		base   []string
		text   string
		want   []string
	}{
		{"http", []string{"a", "b"}, "x", []string{"a", "x"}}, {"http", []string{"a", ""}, "x", []string{"a", "x"}}, {"a", nil, "x", []string{"x"}}, {"a", []string{"a", "b"}, "..", []string{""}}, {"a", []string{"a", "b"}, "", []string{"a", ""}}, {"a", []string{"C:"}, "x", []string{"x"}},
		{"file", []string{"C:"}, "x", []string{"C:", "x"}}, {"file", []string{"C|"}, "x", []string{"x"}}, {"file", []string{"C:", "y"}, "..", []string{"C:", ""}}, {"file", []string{"y"}, "D|", []string{"D:"}}, {"file", []string{"C:"}, "D|", []string{"C:", "D|"}},
	} {
		got := Beside(c.base, c.text, c.scheme)
		if !slices.Equal(got, c.want) {
			t.Errorf("P7: %q beside %q of %s is %q, want %q", c.text, c.base, c.scheme, got, c.want)
		}
	}
}

func TestP11OnDrive(t *testing.T) {
	for _, c := range []struct {
		base []string
		text string
		want []string
	}{
		{[]string{"C:", "y"}, "x", []string{"C:", "x"}}, {[]string{"C:"}, "", []string{"C:", ""}}, {[]string{"C:", "y"}, "..", []string{"C:", ""}}, {[]string{"C:", "y"}, "D|/x", []string{"D:", "x"}}, {[]string{"C:"}, "D:", []string{"D:"}}, {[]string{"C:"}, "D:x", []string{"C:", "D:x"}},
		{[]string{"C|", "y"}, "x", []string{"x"}}, {[]string{"y", "C:"}, "x", []string{"x"}}, {[]string{"", "C:"}, "x", []string{"x"}}, {nil, "x", []string{"x"}}, {nil, "D|", []string{"D:"}},
	} {
		if got := OnDrive(c.base, c.text); !slices.Equal(got, c.want) {
			t.Errorf("P11: %q on %q is %q, want %q", c.text, c.base, got, c.want)
		}
	}
}

func TestDriveAhead(t *testing.T) {
	for _, s := range []string{"C:", "c|", "C:/", `C|\x`, "C:/x/y"} {
		if !DriveAhead(s) {
			t.Errorf("%q begins with a drive", s)
		}
	}
	for _, s := range []string{"", "C", "C:x", "C|x/", "/C:", "x/C:", "1:/", "C%7C/"} {
		if DriveAhead(s) {
			t.Errorf("%q begins with no drive", s)
		}
	}
}

// A base's segments stay as they are: they are another URL's.
func TestP1BaseStays(t *testing.T) {
	room := []string{"C:", "b", "c", "d"}
	base := room[:2]
	beside := Beside(base, "../x/y/z", "http")
	drive := OnDrive(base, "x/y/z")
	copied := Copy(base)
	for i := range beside {
		beside[i] = "!"
	}
	for i := range drive {
		drive[i] = "!"
	}
	for i := range copied {
		copied[i] = "!"
	}
	if !slices.Equal(room, []string{"C:", "b", "c", "d"}) {
		t.Errorf("P1: the base is %q", room)
	}
}

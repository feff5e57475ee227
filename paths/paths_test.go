package paths

import (
	"slices"
	"testing"
)

func TestDrive(t *testing.T) {
	for _, s := range []string{"a:", "z|", "A|", "Z:"} {
		if !Drive(s) {
			t.Errorf("%q is a drive", s)
		}
	}
	for _, s := range []string{"", "a", ":", "::", "1:", "@:", "[:", "`:", "{:", "ab", "a:b", "a:/", "a%7C", "é:", "a;"} {
		if Drive(s) {
			t.Errorf("%q is no drive", s)
		}
	}
}

func TestP9Segments(t *testing.T) {
	for _, c := range []struct {
		scheme, text string
		want         []string
	}{
		{"http", "", []string{""}}, {"a", "", []string{""}}, {"http", "/", []string{"", ""}}, {"http", "a//b", []string{"a", "", "b"}},
		{"http", `a\b`, []string{"a", "b"}}, {"a", `a\b`, []string{`a\b`}}, {"file", `a\b`, []string{"a", "b"}},
		{"a", ".", []string{""}}, {"a", "..", []string{""}}, {"a", "./x", []string{"x"}}, {"a", "../x", []string{"x"}}, {"a", "../../x/..", []string{""}},
		{"a", "x/.", []string{"x", ""}}, {"a", "x/y/..", []string{"x", ""}}, {"a", "x/y/../z", []string{"x", "z"}}, {"a", "x//..", []string{"x", ""}}, {"a", "x/./y", []string{"x", "y"}},
		{"a", "x/%2e/%2E/y", []string{"x", "y"}}, {"a", "x/.%2e/y", []string{"y"}}, {"a", "x/%2E./y", []string{"y"}}, {"a", "x/%2e%2E/y", []string{"y"}},
		{"a", ".../.%2e./%2e%2e%2e", []string{"...", ".%2e.", "%2e%2e%2e"}}, {"a", ".x/x./%2ex/%2/%2f/%3e/.%2/2e", []string{".x", "x.", "%2ex", "%2", "%2f", "%3e", ".%2", "2e"}},
		{"a", " \"<>`{}^?#é|", []string{"%20%22%3C%3E%60%7B%7D%5E%3F%23%C3%A9|"}},
	} {
		if got := Read(c.text, c.scheme); !slices.Equal(got, c.want) {
			t.Errorf("P9: %q of %s is %q, want %q", c.text, c.scheme, got, c.want)
		}
	}
}

func TestP9Drives(t *testing.T) {
	for _, c := range []struct {
		scheme, text string
		want         []string
	}{
		{"file", "C|", []string{"C:"}}, {"file", "c:/x", []string{"c:", "x"}}, {"file", "C|x", []string{"C|x"}}, {"file", "x/C|", []string{"x", "C|"}}, {"file", "/C|", []string{"", "C|"}}, {"file", "./C|", []string{"C:"}}, {"file", "x/../C|", []string{"C:"}},
		{"file", "C|/..", []string{"C:", ""}}, {"file", "C:/../../x", []string{"C:", "x"}}, {"file", "C:/x/..", []string{"C:", ""}}, {"file", "C:/D:/..", []string{"C:", ""}}, {"file", "x/C:/..", []string{"x", ""}}, {"file", "1:/..", []string{""}}, {"file", "C%7C/..", []string{""}}, {"file", "C:x/..", []string{""}},
		{"http", "C|/x", []string{"C|", "x"}}, {"http", "C:/..", []string{""}}, {"a", "C:/../x", []string{"x"}},
	} {
		if got := Read(c.text, c.scheme); !slices.Equal(got, c.want) {
			t.Errorf("P9: %q of %s is %q, want %q", c.text, c.scheme, got, c.want)
		}
	}
}

package schemes

import "testing"

func TestSpecial(t *testing.T) {
	for _, c := range []struct {
		scheme  string
		special bool
		port    int
	}{
		{"http", true, 80}, {"https", true, 443}, {"ws", true, 80}, {"wss", true, 443}, {"ftp", true, 21}, {"file", true, 0},
		{"", false, 0}, {"a", false, 0}, {"httpx", false, 0}, {"blob", false, 0}, {"mailto", false, 0}, {"ftps", false, 0},
	} {
		port, has := OwnPort(c.scheme)
		if Special(c.scheme) != c.special || port != c.port || has != (c.port != 0) {
			t.Errorf("%q: %v, %d, %v", c.scheme, Special(c.scheme), port, has)
		}
	}
}

func TestSlashes(t *testing.T) {
	for _, c := range []struct {
		s             string
		special       bool
		count         int
		ahead, behind string
		found         bool
	}{
		{`/\/x`, true, 3, "", `\/x`, true}, {`/\/x`, false, 1, "", `\/x`, true}, {`a\b/c`, true, 0, "a", "b/c", true}, {`a\b/c`, false, 0, `a\b`, "c", true},
		{"", true, 0, "", "", false}, {"//", false, 2, "", "/", true}, {`a\b`, false, 0, `a\b`, "", false},
	} {
		ahead, behind, found := CutSlash(c.s, c.special)
		if CountSlashes(c.s, c.special) != c.count || ahead != c.ahead || behind != c.behind || found != c.found {
			t.Errorf("%q, %v: %d, %q, %q, %v", c.s, c.special, CountSlashes(c.s, c.special), ahead, behind, found)
		}
	}
}

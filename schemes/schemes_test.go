package schemes

import "testing"

func TestSpecial(t *testing.T) {
	for _, c := range []struct {
		scheme  string
		special bool
		port    int
	}{
		{"http", true, 80}, {"https", true, 443}, {"ws", true, 80}, {"wss", true, 443}, {"ftp", true, 21}, {"file", true, 0},
		{"", false, 0}, {"a", false, 0}, {"httpx", false, 0}, {"blob", false, 0}, {"mailto", false, 0}, {"ftps", false, 0},
	} {
		port, has := OwnPort(c.scheme)
		if Special(c.scheme) != c.special || port != c.port || has != (c.port != 0) {
			t.Errorf("%q: %v, %d, %v", c.scheme, Special(c.scheme), port, has)
		}
	}
}

func TestSlashes(t *testing.T) {
	for _, c := range []struct {
		s             string
		special       bool
		count         int
		ahead, behind string
		found         bool
	}{
		{`/\/x`, true, 3, "", `\/x`, true}, {`/\/x`, false, 1, "", `\/x`, true}, {`a\b/c`, true, 0, "a", "b/c", true}, {`a\b/c`, false, 0, `a\b`, "c", true},
		{"", true, 0, "", "", false}, {"//", false, 2, "", "/", true}, {`a\b`, false, 0, `a\b`, "", false},
	} {
		ahead, behind, found := CutSlash(c.s, c.special)
		if CountSlashes(c.s, c.special) != c.count || ahead != c.ahead || behind != c.behind || found != c.found {
			t.Errorf("%q, %v: %d, %q, %q, %v", c.s, c.special, CountSlashes(c.s, c.special), ahead, behind, found)
		}
	}
}

func TestP5Cut(t *testing.T) {
	for _, c := range []struct {
		s, scheme, rest string
		found           bool
	}{
		{"a:", "a", "", true}, {"aB+9-z.Q:x:y", "ab+9-z.q", "x:y", true}, {"Z:/:", "z", "/:", true},
		{"", "", "", false}, {":", "", ":", false}, {"a", "", "a", false}, {"1a:", "", "1a:", false}, {"+a:x", "", "+a:x", false}, {"A_b:x", "", "A_b:x", false}, {" a:", "", " a:", false}, {"a :", "", "a :", false}, {"é:", "", "é:", false},
	} {
		scheme, rest, found := Cut(c.s)
		if scheme != c.scheme || rest != c.rest || found != c.found {
			t.Errorf("P5: Cut(%q) is %q, %q, %v", c.s, scheme, rest, found)
		}
	}
}

func TestP8ReadPort(t *testing.T) {
	for _, c := range []struct {
		digits string
		port   int
		ok     bool
	}{
		{"0", 0, true}, {"00080", 80, true}, {"65535", 65535, true}, {"65536", 0, false}, {"99999999999999999999999", 0, false}, {"", 0, false}, {"8x", 0, false}, {"-8", 0, false}, {" 8", 0, false}, {"a", 0, false},
	} {
		port, ok := ReadPort(c.digits)
		if port != c.port || ok != c.ok {
			t.Errorf("P8: ReadPort(%q) is %d, %v", c.digits, port, ok)
		}
	}
}

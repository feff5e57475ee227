package urls_test

import (
	"strings"
	"testing"

	"urls/api"
	"urls/urls"
)

// against answers a text's URL against a base as it is written; "!": ErrFail;
// "?": Unsupported.
func against(t *testing.T, s string, base string) string {
	t.Helper()
	x, e := urls.Parse(s, base, true)
	return told(t, x, e, s, base)
}

// checkAgainst reads texts against one base.
func checkAgainst(t *testing.T, base string, list [][2]string) {
	t.Helper()
	for _, c := range list {
		if got := against(t, c[0], base); got != c[1] {
			t.Errorf("Parse(%q, %q) is %q, want %q", c[0], base, got, c[1])
		}
	}
}

// A base is read as every text is: what is read against it sees its URL.
func TestP4BaseIsRead(t *testing.T) {
	for _, c := range [][3]string{
		{"x", " HTTP:\\\\N:P@H:80\\a\\.\\b\\..\\c?d'#e ", "http://N:P@h/a/x"}, {"", "http://1/?a'b c#d", "http://0.0.0.1/?a%27b%20c"}, {"", "a:/b/../c d?e'f", "a:/c%20d?e'f"}, {"x", "file:C|", "file:///C:/x"}, {"#f", "a:b\tc?d e", "a:bc?d%20e#f"}, {"x", "https:h", "https://h/x"},
	} {
		if got := against(t, c[0], c[1]); got != c[2] {
			t.Errorf("P4: Parse(%q, %q) is %q, want %q", c[0], c[1], got, c[2])
		}
	}
}

func TestP4BaseBounds(t *testing.T) {
	base := "http://h/" + strings.Repeat("a", api.MaxIn-10) + "/"
	s := strings.Repeat("b", api.MaxIn)
	if got := against(t, s, base); got != base+s {
		t.Errorf("P4: the longest text against the longest base is %q", got)
	}
	// What is written of a base may be longer than a text may be.
	wide := "http://h/" + strings.Repeat("é", 75) + "/"
	if got := against(t, "x", wide); got != "http://h/"+strings.Repeat("%C3%A9", 75)+"/x" {
		t.Errorf("P4: against a base that is written longer: %q", got)
	}
}

func TestP4BaseErrors(t *testing.T) {
	const good = "http://h/"
	long := strings.Repeat("x", api.MaxIn+1)
	for _, c := range []struct {
		s, base string
		want    api.Errno
	}{
		{"//h:x", good, api.ErrFail}, {"http://", good, api.ErrFail}, {"https:", good, api.ErrFail}, {"//é", good, api.Unsupported}, {"https:xn--a", good, api.Unsupported}, {"//h^", good, api.ErrFail},
		// A fault of the base is told, whatever the text is, and even if the
		// text would need none.
		{"a:b", "x", api.ErrBase}, {"//é", "x", api.ErrBase}, {"http://", "/x", api.ErrBase}, {"", "", api.ErrBase}, {"#f", "#f", api.ErrBase}, {"a:b", "http://h:65536/", api.ErrBase}, {"a:b", "file://h:1/", api.ErrBase},
		{"a:b", "http://é/", api.Unsupported}, {"http://", "ws://xn--a/", api.Unsupported}, {"//h:x", "file://é/", api.Unsupported},
		{long, good, api.ErrLong}, {long, "x", api.ErrLong}, {long, "http://é/", api.ErrLong}, {"a:b", long, api.ErrLong}, {"http://", long, api.ErrLong}, {"é", "http://h/" + strings.Repeat("é", 76), api.ErrLong},
	} {
		if x, e := urls.Parse(c.s, c.base, true); e != c.want || x != nil {
			t.Errorf("P4: Parse(%q, %q): error %d, want %d", c.s, c.base, e, c.want)
		}
	}
}

func TestP5Opaque(t *testing.T) {
	checkAgainst(t, "mailto:x y?q#g", [][2]string{
		{"#", "mailto:x y?q#"}, {"#f", "mailto:x y?q#f"}, {"#f#`?", "mailto:x y?q#f#%60?"}, {" \t#f\n ", "mailto:x y?q#f"}, {"\n#\tf", "mailto:x y?q#f"},
		{"", "!"}, {" ", "!"}, {"\t", "!"}, {"x", "!"}, {"x#f", "!"}, {"/", "!"}, {"/x#f", "!"}, {"//h", "!"}, {"?", "!"}, {"?#f", "!"}, {"?q", "!"}, {".", "!"}, {":", "!"}, {"1:#f", "!"}, {"é", "!"}, {"//é", "!"},
		{"a:b", "a:b"}, {"mailto:z", "mailto:z"}, {"mailto:", "mailto:"}, {"mailto:#f", "mailto:#f"}, {"http:h", "http://h/"}, {"file:", "file:///"}, {"file:x?", "file:///x?"},
	})
	checkAgainst(t, "a:", [][2]string{{"#f", "a:#f"}, {"", "!"}, {"x", "!"}})
	checkAgainst(t, "a:b", [][2]string{{"#f", "a:b#f"}, {"a:#f", "a:#f"}})
}

// A query and a fragment are read by the base's scheme, if there is no other.
func TestP5QueryAgainst(t *testing.T) {
	checkAgainst(t, "http://h/a?b", [][2]string{{"?'\"", "http://h/a?%27%22"}, {"x?'?#'`#", "http://h/x?%27?#'%60#"}, {"#?'", "http://h/a?b#?'"}, {"a:?'", "a:?'"}, {"http:?'", "http://h/a?%27"}, {"?\\..", "http://h/a?\\.."}})
	checkAgainst(t, "a://h/a?b", [][2]string{{"?'\"", "a://h/a?'%22"}, {"x?'", "a://h/x?'"}, {"http:h?'", "http://h/?%27"}})
	checkAgainst(t, "file:///a?b", [][2]string{{"?'", "file:///a?%27"}})
}

func TestP5NoSchemeAgainst(t *testing.T) {
	checkAgainst(t, "http://h/a/b", [][2]string{
		{"1:x", "http://h/a/1:x"}, {":x", "http://h/a/:x"}, {":", "http://h/a/:"}, {"a b:x", "http://h/a/a%20b:x"}, {"é:x", "http://h/a/%C3%A9:x"}, {"x/y:z", "http://h/a/x/y:z"}, {"?x:y", "http://h/a/b?x:y"}, {"#x:y", "http://h/a/b#x:y"}, {"x?y:z", "http://h/a/x?y:z"}, {"./x:y", "http://h/a/x:y"}, {"x:y", "x:y"}, {"+:x", "http://h/a/+:x"}, {"http", "http://h/a/http"}, {"a@b:c", "http://h/a/a@b:c"}, {"[::1]", "http://h/a/[::1]"},
	})
}

func TestP6SchemeOfBase(t *testing.T) {
	const b = "http://u:p@h:8080/a/b?c#d"
	checkAgainst(t, b, [][2]string{
		{"http:", "http://u:p@h:8080/a/b?c"}, {"HTTP:#f", "http://u:p@h:8080/a/b?c#f"}, {"http:?", "http://u:p@h:8080/a/b?"}, {"http:x", "http://u:p@h:8080/a/x"}, {"http:/x", "http://u:p@h:8080/x"}, {`http:\x`, "http://u:p@h:8080/x"}, {"http:..", "http://u:p@h:8080/"}, {"http:x:y", "http://u:p@h:8080/a/x:y"},
		{"http://x", "http://x/"}, {`http:/\x`, "http://x/"}, {`http:\/x`, "http://x/"}, {`http:\\\\x`, "http://x/"}, {"http:////x", "http://x/"}, {"http://", "!"}, {`http:\\`, "!"}, {"http:/ /x", "http://u:p@h:8080/%20/x"},
		{"https:x", "https://x/"}, {"https:/x", "https://x/"}, {"ws:x", "ws://x/"}, {"ftp:", "!"}, {"https:?q", "!"}, {"file:x", "file:///x"}, {"a:x", "a:x"}, {"a:/x", "a:/x"}, {"a://x", "a://x"}, {"a:", "a:"},
	})
	// Of no other scheme than a special one is a text read against its base.
	checkAgainst(t, "a://u:p@h:1/b/c?d", [][2]string{{"a:", "a:"}, {"a:x", "a:x"}, {"a:/x", "a:/x"}, {"a://x", "a://x"}, {"a:?q", "a:?q"}, {"a:#f", "a:#f"}, {"http:x", "http://x/"}})
}

func TestP7Special(t *testing.T) {
	checkAgainst(t, "https://u:p@h:8080/a/b/c?d#e", [][2]string{
		{"", "https://u:p@h:8080/a/b/c?d"}, {"#", "https://u:p@h:8080/a/b/c?d#"}, {"#f", "https://u:p@h:8080/a/b/c?d#f"}, {"?", "https://u:p@h:8080/a/b/c?"}, {"?#", "https://u:p@h:8080/a/b/c?#"}, {"?q#f", "https://u:p@h:8080/a/b/c?q#f"}, {" \n", "https://u:p@h:8080/a/b/c?d"},
		{"x", "https://u:p@h:8080/a/b/x"}, {"x?q#f", "https://u:p@h:8080/a/b/x?q#f"}, {"x?", "https://u:p@h:8080/a/b/x?"}, {"x/", "https://u:p@h:8080/a/b/x/"}, {"x//y", "https://u:p@h:8080/a/b/x//y"}, {`x\y`, "https://u:p@h:8080/a/b/x/y"}, {"x y", "https://u:p@h:8080/a/b/x%20y"}, {"C|", "https://u:p@h:8080/a/b/C|"},
		{".", "https://u:p@h:8080/a/b/"}, {"./", "https://u:p@h:8080/a/b/"}, {"./x", "https://u:p@h:8080/a/b/x"}, {"..", "https://u:p@h:8080/a/"}, {"../x", "https://u:p@h:8080/a/x"}, {"%2e%2E/x", "https://u:p@h:8080/a/x"}, {"../..", "https://u:p@h:8080/"}, {"../../..", "https://u:p@h:8080/"}, {"../../../../x", "https://u:p@h:8080/x"}, {"x/..", "https://u:p@h:8080/a/b/"}, {`..\x`, "https://u:p@h:8080/a/x"},
		{"/", "https://u:p@h:8080/"}, {"/x", "https://u:p@h:8080/x"}, {`\x`, "https://u:p@h:8080/x"}, {"/../x", "https://u:p@h:8080/x"}, {"/.", "https://u:p@h:8080/"}, {"/?q", "https://u:p@h:8080/?q"}, {"/#f", "https://u:p@h:8080/#f"}, {"/x//", "https://u:p@h:8080/x//"}, {"/.//x", "https://u:p@h:8080//x"},
		{"//x", "https://x/"}, {"//x/y?q#f", "https://x/y?q#f"}, {"///x", "https://x/"}, {`\\x\y`, "https://x/y"}, {`/\x`, "https://x/"}, {`\/\/\x`, "https://x/"}, {"//n@x:443", "https://n@x/"}, {"//x:444", "https://x:444/"}, {"//1", "https://0.0.0.1/"}, {"//h", "https://h/"},
		{"//", "!"}, {"///", "!"}, {"//?q", "!"}, {"//#f", "!"}, {"//:1", "!"}, {"//x@", "!"}, {"//x:65536", "!"}, {"//é", "?"}, {"//xn--a", "?"}, {"//[", "!"},
	})
	checkAgainst(t, "http://h/", [][2]string{{"x", "http://h/x"}, {"..", "http://h/"}, {"", "http://h/"}, {"?", "http://h/?"}, {"../..//x", "http://h//x"}})
	checkAgainst(t, "http://h/a/b/?c", [][2]string{{"x", "http://h/a/b/x"}, {".", "http://h/a/b/"}, {"..", "http://h/a/"}, {"", "http://h/a/b/?c"}})
	checkAgainst(t, "http://h/a?", [][2]string{{"", "http://h/a?"}, {"#", "http://h/a?#"}, {"x", "http://h/x"}})
	// A drive is no drive but in a file.
	checkAgainst(t, "http://h/C:", [][2]string{{"x", "http://h/x"}, {"..", "http://h/"}, {"/x", "http://h/x"}})
}

func TestP7Others(t *testing.T) {
	checkAgainst(t, "a://u:p@h:80/b/c?d#e", [][2]string{
		{"", "a://u:p@h:80/b/c?d"}, {"?", "a://u:p@h:80/b/c?"}, {"#f", "a://u:p@h:80/b/c?d#f"}, {"x", "a://u:p@h:80/b/x"}, {"..", "a://u:p@h:80/"}, {"/x", "a://u:p@h:80/x"}, {`\x`, `a://u:p@h:80/b/\x`}, {`\\x`, `a://u:p@h:80/b/\\x`}, {`/\x`, `a://u:p@h:80/\x`},
		{"//x", "a://x"}, {"//", "a://"}, {"///", "a:///"}, {"///x", "a:///x"}, {"////x", "a:////x"}, {"//x/y", "a://x/y"}, {"//x:80", "a://x:80"}, {"//n@", "!"}, {"//:1", "!"}, {"//x^", "!"}, {"//é", "a://%C3%A9"},
	})
	checkAgainst(t, "a://h", [][2]string{{"", "a://h"}, {"x", "a://h/x"}, {".", "a://h/"}, {"..", "a://h/"}, {"/", "a://h/"}, {"?q", "a://h?q"}, {"../x", "a://h/x"}})
	checkAgainst(t, "a://", [][2]string{{"", "a://"}, {"x", "a:///x"}, {"/x", "a:///x"}, {"//x", "a://x"}})
	checkAgainst(t, "a:/b?c", [][2]string{{"", "a:/b?c"}, {"x", "a:/x"}, {"/x", "a:/x"}, {"//x", "a://x"}, {"///x", "a:///x"}, {"..", "a:/"}, {".//x", "a:/.//x"}, {"/.//x", "a:/.//x"}, {"x//y", "a:/x//y"}, {"?q", "a:/b?q"}})
	checkAgainst(t, "a:/.//b", [][2]string{{"", "a:/.//b"}, {"x", "a:/.//x"}, {"..", "a:/"}, {"../x", "a:/x"}, {"/x", "a:/x"}})
	checkAgainst(t, "a:/C:", [][2]string{{"x", "a:/x"}, {"..", "a:/"}, {"/x", "a:/x"}, {"D|", "a:/D|"}})
}

func TestP11TwoSlashes(t *testing.T) {
	for _, base := range []string{"file://h/C:/y?q#f", "file:///y", "file://h/", "http://h/C:/y", "a:b"} {
		ahead := "file:"
		if strings.HasPrefix(base, "file:") {
			ahead = ""
		}
		for _, c := range [][2]string{
			{"//", "file:///"}, {"///", "file:///"}, {"///x", "file:///x"}, {"////x", "file:////x"}, {"//g", "file://g/"}, {"//G/x?r#s", "file://g/x?r#s"}, {`\\g\x`, "file://g/x"}, {`/\g`, "file://g/"}, {"//localhost", "file:///"}, {"//LOCAL%48ost/x", "file:///x"}, {"//d:/x", "file:///d:/x"}, {"//d|", "file:///d:"}, {`//d|\x`, "file:///d:/x"}, {"//d:/..", "file:///d:/"}, {"///..", "file:///"}, {"//?r", "file:///?r"}, {"//1", "file://0.0.0.1/"},
			{"//g:1", "!"}, {"//n@g", "!"}, {"//d|x", "!"}, {"//a b", "!"}, {"//é", "?"}, {"//xn--a/", "?"},
		} {
			if got := against(t, ahead+c[0], base); got != c[1] {
				t.Errorf("P11: Parse(%q, %q) is %q, want %q", ahead+c[0], base, got, c[1])
			}
		}
	}
}

func TestP11OneSlash(t *testing.T) {
	checkAgainst(t, "file://h/C:/y/z?q#f", [][2]string{
		{"/", "file://h/C:/"}, {"/x", "file://h/C:/x"}, {`\x`, "file://h/C:/x"}, {"/x/y", "file://h/C:/x/y"}, {"/..", "file://h/C:/"}, {"/../../x", "file://h/C:/x"}, {"/.", "file://h/C:/"}, {"/x/..", "file://h/C:/"}, {"/?r", "file://h/C:/?r"}, {"/#g", "file://h/C:/#g"}, {"file:/x", "file://h/C:/x"}, {`FILE:\x`, "file://h/C:/x"},
		{"/D:", "file://h/D:"}, {"/D|", "file://h/D:"}, {"/D:/", "file://h/D:/"}, {"/D|/x", "file://h/D:/x"}, {`/d|\x`, "file://h/d:/x"}, {"/D|?r", "file://h/D:?r"}, {"/D:#g", "file://h/D:#g"}, {"/D:/..", "file://h/D:/"}, {"/D:x", "file://h/C:/D:x"}, {"/D|x", "file://h/C:/D|x"}, {"/DD:/x", "file://h/C:/DD:/x"}, {"/1:/x", "file://h/C:/1:/x"}, {"/D%7C/x", "file://h/C:/D%7C/x"}, {"/./D|", "file://h/C:/D|"}, {"/../D|/x", "file://h/C:/D|/x"},
	})
	checkAgainst(t, "file://h/y/C:/z", [][2]string{{"/x", "file://h/x"}, {"/D|/x", "file://h/D:/x"}, {"/../D|/x", "file://h/D:/x"}, {"/", "file://h/"}, {"/..", "file://h/"}})
	checkAgainst(t, "file:///C:", [][2]string{{"/x", "file:///C:/x"}, {"/", "file:///C:/"}, {"/D|", "file:///D:"}})
	checkAgainst(t, "file:///C:x/y", [][2]string{{"/x", "file:///x"}})
	checkAgainst(t, "file:////C:/y", [][2]string{{"/x", "file:///x"}})
	checkAgainst(t, "file:///./C|", [][2]string{{"/x", "file:///C:/x"}})
	for _, base := range []string{"http://h/C:/y", "a://h/C:/y", "a:/C:/y", "a:C:"} {
		checkAgainst(t, base, [][2]string{{"file:/x", "file:///x"}, {"file:/", "file:///"}, {"file:/D|/x", "file:///D:/x"}, {`file:\x?r`, "file:///x?r"}})
	}
}

func TestP11NoSlash(t *testing.T) {
	checkAgainst(t, "file://h/C:/y/z?q#f", [][2]string{
		{"", "file://h/C:/y/z?q"}, {"#g", "file://h/C:/y/z?q#g"}, {"?", "file://h/C:/y/z?"}, {"?r", "file://h/C:/y/z?r"}, {"file:", "file://h/C:/y/z?q"}, {"file:#g", "file://h/C:/y/z?q#g"}, {"file:?r", "file://h/C:/y/z?r"},
		{"x", "file://h/C:/y/x"}, {"x?r#g", "file://h/C:/y/x?r#g"}, {"file:x", "file://h/C:/y/x"}, {"file:..", "file://h/C:/"}, {".", "file://h/C:/y/"}, {"..", "file://h/C:/"}, {"../..", "file://h/C:/"}, {"../../../x", "file://h/C:/x"}, {`..\x`, "file://h/C:/x"}, {"x/y", "file://h/C:/y/x/y"},
		{"D|", "file://h/D:"}, {"D|/", "file://h/D:/"}, {"D|/x", "file://h/D:/x"}, {`D|\x`, "file://h/D:/x"}, {"D|?r", "file://h/D:?r"}, {"D|#g", "file://h/D:#g"}, {"D|/..", "file://h/D:/"}, {"file:D:/x", "file://h/D:/x"}, {"file:D:", "file://h/D:"}, {"D|x", "file://h/C:/y/D|x"}, {"D", "file://h/C:/y/D"}, {"1|/x", "file://h/C:/y/1|/x"}, {"./D|", "file://h/C:/y/D|"}, {"D%7C", "file://h/C:/y/D%7C"}, {"../../D|", "file://h/C:/D|"},
		{"D:/x", "d:/x"}, {"D:", "d:"},
	})
	checkAgainst(t, "file:///C:", [][2]string{{"", "file:///C:"}, {"x", "file:///C:/x"}, {"..", "file:///C:/"}, {".", "file:///C:/"}, {"?r", "file:///C:?r"}, {"D|", "file:///D:"}})
	checkAgainst(t, "file:///C:/", [][2]string{{"", "file:///C:/"}, {"x", "file:///C:/x"}, {"..", "file:///C:/"}})
	checkAgainst(t, "file://h/y?q", [][2]string{{"x", "file://h/x"}, {"..", "file://h/"}, {"./D|", "file://h/D:"}, {"../D|/x", "file://h/D:/x"}, {"", "file://h/y?q"}})
	checkAgainst(t, "file:///1:", [][2]string{{"x", "file:///x"}})
	checkAgainst(t, "file:///C:x", [][2]string{{"x", "file:///x"}})
	checkAgainst(t, "file:////C:", [][2]string{{"x", "file:////x"}, {"..", "file:///"}})
	for _, base := range []string{"http://h/C:/y?q#f", "a://h/C:/y?q", "a:/C:/y?q", "a:C:?q"} {
		checkAgainst(t, base, [][2]string{{"file:", "file:///"}, {"file:#g", "file:///#g"}, {"file:?r", "file:///?r"}, {"file:x", "file:///x"}, {"file:..", "file:///"}, {"file:D|", "file:///D:"}, {"file:D|x", "file:///D|x"}})
	}
}

// What one text is read against is as it was for the next.
func TestP1BasesApart(t *testing.T) {
	const b = "http://u:p@h:1/a/b/c?d#e"
	first, _ := urls.Parse("x/y/z", b, true)
	same, _ := urls.Parse("", b, true)
	last, _ := urls.Parse("../w", b, true)
	for _, c := range []struct {
		x    *urls.URL
		want string
	}{
		{first, "http://u:p@h:1/a/b/x/y/z"}, {same, "http://u:p@h:1/a/b/c?d"}, {last, "http://u:p@h:1/a/w"},
	} {
		if got := c.x.Href(); got != c.want {
			t.Errorf("P1: %q, want %q", got, c.want)
		}
	}
}

// All parts are told of a URL that took some from its base.
func TestP13PartsAgainst(t *testing.T) {
	x, e := urls.Parse("../x#", "http://u:p@h:8080/a/b?c#d", true)
	want := api.All{Href: "http://u:p@h:8080/x#", Origin: "http://h:8080", Protocol: "http:", Username: "u", Password: "p", Host: "h:8080", Hostname: "h", Port: "8080", Pathname: "/x"}
	if e != api.OK || x.Get() != want {
		t.Errorf("P13: %+v, want %+v", x.Get(), want)
	}
}

func FuzzP4Against(f *testing.F) {
	for _, c := range [][2]string{{"", "http://u:p@h:1/a?b#c"}, {"..", "file:///C:/x"}, {"#f", "a:b"}, {"/D|/x", "file://h/C:/y"}, {"//x", "a:/b"}, {"http:x", "http://h"}, {".//x", "a:/b"}} {
		f.Add(c[0], c[1])
	}
	f.Fuzz(func(t *testing.T, s string, base string) {
		x, e := urls.Parse(s, base, true)
		if (x == nil) != (e != api.OK) || (e == api.ErrLong) != (len(s) > api.MaxIn || len(base) > api.MaxIn) {
			t.Fatalf("P4: Parse(%q, %q): error %d", s, base, e)
		}
		_, wrong := urls.Parse(base, "", false)
		if (e == api.ErrBase) != (wrong == api.ErrFail && len(s) <= api.MaxIn) {
			t.Fatalf("P4: Parse(%q, %q): error %d, of the base alone %d", s, base, e, wrong)
		}
		if x == nil {
			return
		}
		// A URL that is written takes nothing more from a base.
		written := x.Href()
		if len(written) > api.MaxIn {
			return
		}
		again, e := urls.Parse(written, base, true)
		if e != api.OK || again.Get() != x.Get() {
			t.Errorf("P12: Parse(%q, %q) is %q, and that is another", s, base, written)
		}
	})
}

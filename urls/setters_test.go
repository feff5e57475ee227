package urls_test

import (
	"strings"
	"testing"

	"urls/api"
	"urls/urls"
)

var setters = []string{"href", "protocol", "username", "password", "host", "hostname", "port", "pathname", "search", "hash"}

// put calls a setter by its name.
func put(x *urls.URL, name string, s string) api.Errno {
	switch name {
	case "href":
		return x.SetHref(s)
	case "protocol":
		return x.SetProtocol(s)
	case "username":
		return x.SetUsername(s)
	case "password":
		return x.SetPassword(s)
	case "host":
		return x.SetHost(s)
	case "hostname":
		return x.SetHostname(s)
	case "port":
		return x.SetPort(s)
	case "pathname":
		return x.SetPathname(s)
	case "search":
		return x.SetSearch(s)
	}
	return x.SetHash(s)
}

// read answers the URL of a text that is one.
func read(t *testing.T, s string) *urls.URL {
	t.Helper()
	x, e := urls.Parse(s, "", false)
	if e != api.OK || x == nil {
		t.Fatalf("P4: Parse(%q): error %d", s, e)
	}
	return x
}

// changed answers what a setter makes of a URL, as it is written; "=": nothing
// else than it was; "!": ErrFail; "?": Unsupported.
func changed(t *testing.T, from string, name string, s string) string {
	t.Helper()
	x := read(t, from)
	before := x.Get()
	e := put(x, name, s)
	after := x.Get()
	if after.Href != x.Href() || after.Origin != x.Origin() {
		t.Errorf("P13: %q, %s %q: %+v", from, name, s, after)
	}
	if e == api.OK && after == before {
		return "="
	}
	if e == api.OK {
		return after.Href
	}
	if after != before {
		t.Errorf("P1: %q, %s %q: error %d, and it became %q", from, name, s, e, after.Href)
	}
	switch e {
	case api.ErrFail:
		return "!"
	case api.Unsupported:
		return "?"
	}
	t.Errorf("P14 to P16: %q, %s %q: error %d", from, name, s, e)
	return ""
}

// checkSet calls a setter of one URL with texts.
func checkSet(t *testing.T, from string, name string, list [][2]string) {
	t.Helper()
	for _, c := range list {
		if got := changed(t, from, name, c[0]); got != c[1] {
			t.Errorf("%q, %s %q is %q, want %q", from, name, c[0], got, c[1])
		}
	}
}

// unchanged calls a setter with texts that change nothing of some URLs.
func unchanged(t *testing.T, froms []string, name string, texts []string) {
	t.Helper()
	for _, from := range froms {
		for _, s := range texts {
			if got := changed(t, from, name, s); got != "=" {
				t.Errorf("%q, %s %q is %q, and should be as it was", from, name, s, got)
			}
		}
	}
}

func TestP14Href(t *testing.T) {
	for _, from := range []string{"http://u:p@h:8080/a/b?c#d", "file://h/C:/y", "a:b  c#d"} {
		checkSet(t, from, "href", [][2]string{
			{"ftp:x", "ftp://x/"}, {"http:x", "http://x/"}, {"file:x", "file:///x"}, {"file:/x", "file:///x"}, {"a:", "a:"}, {" \x00a\t:\nx \r", "a:x"}, {"HTTP://E%58:80/a/../b c?'#`", "http://ex/b%20c?%27#%60"}, {"a:x\xff", "a:x%EF%BF%BD"},
			{"", "!"}, {"x", "!"}, {"/x", "!"}, {"//h", "!"}, {"?q", "!"}, {"#f", "!"}, {"http:", "!"}, {"http://h:65536", "!"}, {"http://a b/", "!"}, {"http://é/", "?"}, {"ws://xn--a", "?"}, {"file://é/", "?"},
		})
	}
}

func TestP14Protocol(t *testing.T) {
	checkSet(t, "http://u:p@h:8080/a?b'#c", "protocol", [][2]string{
		{"https", "https://u:p@h:8080/a?b%27#c"}, {"https:", "https://u:p@h:8080/a?b%27#c"}, {"ftp:x:y", "ftp://u:p@h:8080/a?b%27#c"}, {"WsS", "wss://u:p@h:8080/a?b%27#c"}, {"w\ts\n:\r", "ws://u:p@h:8080/a?b%27#c"}, {"\tftp", "ftp://u:p@h:8080/a?b%27#c"}, {"ftp:\xff", "ftp://u:p@h:8080/a?b%27#c"},
		{"http", "="}, {"HTTP:", "="}, {"", "="}, {":", "="}, {"\t", "="}, {" https", "="}, {"https ", "="}, {"https :", "="}, {"https/", "="}, {"https?", "="}, {"https#:", "="}, {"1s", "="}, {"+", "="}, {"é", "="}, {"httpsé", "="}, {"a", "="}, {"a+b-c.d", "="}, {"file", "="}, {"blob", "="},
	})
	checkSet(t, "a://u:p@h:443/b?c", "protocol", [][2]string{
		{"B+1-2.c:x", "b+1-2.c://u:p@h:443/b?c"}, {"blob", "blob://u:p@h:443/b?c"}, {"httpx", "httpx://u:p@h:443/b?c"}, {"https", "="}, {"http", "="}, {"ws", "="}, {"wss", "="}, {"ftp", "="}, {"file", "="}, {"-b", "="}, {".b", "="}, {"b_c", "="}, {"b c", "="}, {"b%41", "="},
	})
	checkSet(t, "a:b c", "protocol", [][2]string{{"d", "d:b c"}, {"http", "="}, {"file", "="}, {"1", "="}})
	checkSet(t, "a:/.//b", "protocol", [][2]string{{"d", "d:/.//b"}, {"ws", "="}})
}

func TestP14ProtocolOfFiles(t *testing.T) {
	checkSet(t, "http://h/C|/x", "protocol", [][2]string{{"file", "file://h/C|/x"}, {"FILE:", "file://h/C|/x"}})
	unchanged(t, []string{"http://u@h/", "http://:p@h/", "http://h:8/", "https://u:p@h:0/"}, "protocol", []string{"file", "FILE:x"})
	checkSet(t, "file://h/C:/x", "protocol", [][2]string{{"http", "http://h/C:/x"}, {"wss:", "wss://h/C:/x"}, {"file", "="}, {"a", "="}, {"", "="}})
	unchanged(t, []string{"file:///x", "file://localhost/", "file:"}, "protocol", []string{"http", "https:", "ftp", "file", "a", ""})
}

// A port that the new scheme has by itself goes.
func TestP14ProtocolAndPort(t *testing.T) {
	for _, c := range [][3]string{
		{"http://h:443/", "https", "https://h/"}, {"http://h:443/", "wss", "wss://h/"}, {"http://h:21/", "ftp", "ftp://h/"}, {"https://h:80/", "http", "http://h/"}, {"ftp://h:80/", "ws", "ws://h/"},
		{"http://h:21/", "https", "https://h:21/"}, {"http://h:0/", "https", "https://h:0/"}, {"http://h/", "https", "https://h/"}, {"a://h:80", "b", "b://h:80"}, {"http://h:444/", "https", "https://h:444/"},
	} {
		if got := changed(t, c[0], "protocol", c[1]); got != c[2] {
			t.Errorf("P14: %q, protocol %q is %q, want %q", c[0], c[1], got, c[2])
		}
	}
	// It does not come back.
	x := read(t, "http://h:443/")
	x.SetProtocol("https")
	x.SetProtocol("http")
	if got := x.Href(); got != "http://h/" {
		t.Errorf("P14: a port that went is %q", got)
	}
}

// Where there is no host that could have them, nothing changes.
func TestP15NoPlace(t *testing.T) {
	froms := []string{"file://h/x", "file:///x", "a:b", "a:/b", "a:///b", "a://", "a:/.//b"}
	unchanged(t, froms, "username", []string{"", "u"})
	unchanged(t, froms, "password", []string{"", "p"})
	unchanged(t, froms, "port", []string{"", "8", "x"})
}

func TestP15User(t *testing.T) {
	const all = " \"$%&'()*+,-./:;<=>?@[\\]^_`{|}~#"
	const coded = "%20%22$%&'()*+,-.%2F%3A%3B%3C%3D%3E%3F%40%5B%5C%5D%5E_%60%7B%7C%7D~%23"
	checkSet(t, "http://u:p@h:8080/a", "username", [][2]string{
		{"n", "http://n:p@h:8080/a"}, {"", "http://:p@h:8080/a"}, {"u", "="}, {all, "http://" + coded + ":p@h:8080/a"}, {" \t\n\r\x00 ", "http://%20%09%0A%0D%00%20:p@h:8080/a"}, {"é\xff", "http://%C3%A9%EF%BF%BD:p@h:8080/a"}, {"%41%zz", "http://%41%zz:p@h:8080/a"}, {"n:q@x", "http://n%3Aq%40x:p@h:8080/a"},
	})
	checkSet(t, "a://u:p@h", "password", [][2]string{
		{"q", "a://u:q@h"}, {"", "a://u@h"}, {"p", "="}, {all, "a://u:" + coded + "@h"}, {"\t:\n", "a://u:%09%3A%0A@h"}, {"é\xf0\x9f", "a://u:%C3%A9%EF%BF%BD@h"},
	})
	checkSet(t, "https://h/", "username", [][2]string{{"n", "https://n@h/"}, {"", "="}})
	checkSet(t, "https://h/", "password", [][2]string{{"q", "https://:q@h/"}, {"", "="}})
	checkSet(t, "ws://u@[::1]/", "username", [][2]string{{"", "ws://[::1]/"}})
	checkSet(t, "ftp://:p@1/", "password", [][2]string{{"", "ftp://0.0.0.1/"}})
}

func TestP15Port(t *testing.T) {
	checkSet(t, "http://u:p@h:8080/a?b#c", "port", [][2]string{
		{"", "http://u:p@h/a?b#c"}, {"80", "http://u:p@h/a?b#c"}, {"00080x", "http://u:p@h/a?b#c"}, {"81", "http://u:p@h:81/a?b#c"}, {"0", "http://u:p@h:0/a?b#c"}, {"65535", "http://u:p@h:65535/a?b#c"}, {"0000000000000000000000081", "http://u:p@h:81/a?b#c"}, {"443", "http://u:p@h:443/a?b#c"},
		{"81x", "http://u:p@h:81/a?b#c"}, {"81 82", "http://u:p@h:81/a?b#c"}, {"81/x", "http://u:p@h:81/a?b#c"}, {"81?", "http://u:p@h:81/a?b#c"}, {"81#", "http://u:p@h:81/a?b#c"}, {"81:82", "http://u:p@h:81/a?b#c"}, {"81é", "http://u:p@h:81/a?b#c"}, {"81\xff", "http://u:p@h:81/a?b#c"}, {"81.5", "http://u:p@h:81/a?b#c"}, {"\t8\r\n1\t", "http://u:p@h:81/a?b#c"},
		{"8080", "="}, {"\t", "="}, {"\n\r", "="}, {" 81", "="}, {"x81", "="}, {":81", "="}, {"-1", "="}, {"+1", "="}, {"%38", "="}, {"٣", "="}, {"65536", "="}, {"65536x", "="}, {"99999999999999999999999999", "="}, {"18446744073709551697", "="}, {"4294967377", "="}, {"/", "="},
	})
	checkSet(t, "a://h:1/x", "port", [][2]string{{"80", "a://h:80/x"}, {"", "a://h/x"}, {"\\8", "="}})
	checkSet(t, "https://h/", "port", [][2]string{{"443", "="}, {"80", "https://h:80/"}, {"", "="}})
	checkSet(t, "ftp://h:1/", "port", [][2]string{{"21", "ftp://h/"}, {"22", "ftp://h:22/"}})
	checkSet(t, "wss://h:1/", "port", [][2]string{{"443", "wss://h/"}})
	checkSet(t, "ws://h:1/", "port", [][2]string{{"80", "ws://h/"}})
}

// What both setters of the host do alike to a special scheme.
func TestP15HostOfSpecial(t *testing.T) {
	for _, name := range []string{"host", "hostname"} {
		checkSet(t, "http://u:p@h:8080/a?b#c", name, [][2]string{
			{"g", "http://u:p@g:8080/a?b#c"}, {"EX%41.com", "http://u:p@exa.com:8080/a?b#c"}, {"g/x:y", "http://u:p@g:8080/a?b#c"}, {`g\x:y`, "http://u:p@g:8080/a?b#c"}, {"g?x:y", "http://u:p@g:8080/a?b#c"}, {"g#x:y", "http://u:p@g:8080/a?b#c"}, {"g?/#", "http://u:p@g:8080/a?b#c"}, {"g#?", "http://u:p@g:8080/a?b#c"}, {"\tg\n\r", "http://u:p@g:8080/a?b#c"}, {"g\t/x", "http://u:p@g:8080/a?b#c"}, {"[1::0:2]", "http://u:p@[1::2]:8080/a?b#c"}, {"256", "http://u:p@0.0.1.0:8080/a?b#c"}, {"localhost", "http://u:p@localhost:8080/a?b#c"}, {"g/é", "http://u:p@g:8080/a?b#c"},
			{"h", "="}, {"", "="}, {"\t", "="}, {"/g", "="}, {"//g", "="}, {`\g`, "="}, {"?g", "="}, {"#g", "="}, {":", "="}, {":81", "="}, {"::1", "="}, {"x@g", "="}, {"g h", "="}, {" g", "="}, {"g ", "="}, {"g%", "="}, {"g%2Fx", "="}, {"1.09", "="}, {"[::1", "="}, {"[::1]x", "="}, {"[:", "="}, {"[", "="}, {"g]", "="}, {"[::1/]", "="}, {"g^", "="}, {"g|", "="}, {"\x00", "="},
			{"é", "?"}, {"%C3%A9", "?"}, {"xn--a", "?"}, {"a.XN--b", "?"}, {"\xff", "?"}, {"é h", "?"},
		})
	}
}

func TestP15Host(t *testing.T) {
	checkSet(t, "http://u:p@h:8080/a?b#c", "host", [][2]string{
		{"g:81", "http://u:p@g:81/a?b#c"}, {"h:81", "http://u:p@h:81/a?b#c"}, {"g:80", "http://u:p@g/a?b#c"}, {"g:0080x", "http://u:p@g/a?b#c"}, {"g:", "http://u:p@g:8080/a?b#c"}, {"g:\t", "http://u:p@g:8080/a?b#c"}, {"g:x", "http://u:p@g:8080/a?b#c"}, {"g: 9", "http://u:p@g:8080/a?b#c"}, {"g:9x", "http://u:p@g:9/a?b#c"}, {"g:9:10", "http://u:p@g:9/a?b#c"}, {"g::9", "http://u:p@g:8080/a?b#c"}, {"g:65535", "http://u:p@g:65535/a?b#c"}, {"g:65536", "http://u:p@g:8080/a?b#c"}, {"g:9/10", "http://u:p@g:9/a?b#c"}, {`g:9\10`, "http://u:p@g:9/a?b#c"}, {"g:/9", "http://u:p@g:8080/a?b#c"}, {"g:9?1", "http://u:p@g:9/a?b#c"}, {"g:9#1", "http://u:p@g:9/a?b#c"}, {"g:\n1\t2", "http://u:p@g:12/a?b#c"}, {"[::1]:9", "http://u:p@[::1]:9/a?b#c"}, {"[::1]:", "http://u:p@[::1]:8080/a?b#c"}, {"g:é", "http://u:p@g:8080/a?b#c"},
		{"h:", "="}, {"h:x", "="}, {"h:8080", "="}, {":81", "="}, {"x@g:81", "="}, {"g h:81", "="}, {"[::1:81", "="}, {"1.09:81", "="}, {"]:81", "="},
		{"é:81", "?"}, {"xn--a:x", "?"},
	})
	checkSet(t, "https://h/", "host", [][2]string{{"g:443", "https://g/"}, {"g:80", "https://g:80/"}, {"g", "https://g/"}})
}

// A port is no part of a Hostname.
func TestP15Hostname(t *testing.T) {
	unchanged(t, []string{"http://u:p@h:8080/a?b#c", "a://h/x", "a:/x", "a:///x"}, "hostname", []string{"g:81", "g:", "h:", ":", ":81", "[::1]:9", "[::1]:", "é:81", "xn--a:", "g h:"})
	checkSet(t, "a://h:1/x", "hostname", [][2]string{{"g", "a://g:1/x"}, {"[1::0]", "a://[1::]:1/x"}, {"g/:81", "a://g:1/x"}, {"g?:81", "a://g:1/x"}, {"g#:81", "a://g:1/x"}, {"", "="}})
}

func TestP15HostOfOthers(t *testing.T) {
	for _, name := range []string{"host", "hostname"} {
		unchanged(t, []string{"a:b", "a:", "blob:http://h/", "a:b?c#d"}, name, []string{"", "g", "é", "/", ":"})
		unchanged(t, []string{"a://u@h/x", "a://:p@h/x", "a://h:1/x"}, name, []string{"", "/g", "?", "#", "\t", ":"})
		checkSet(t, "a://h/x?y#z", name, [][2]string{
			{"", "a:///x?y#z"}, {"/g", "a:///x?y#z"}, {"?", "a:///x?y#z"}, {"#g", "a:///x?y#z"}, {"\n", "a:///x?y#z"}, {"G%41", "a://G%41/x?y#z"}, {"é\x01", "a://%C3%A9%01/x?y#z"}, {"\xff", "a://%EF%BF%BD/x?y#z"}, {"xn--a", "a://xn--a/x?y#z"}, {"256", "a://256/x?y#z"}, {"localhost", "a://localhost/x?y#z"}, {"[::01]", "a://[::1]/x?y#z"}, {"g/x", "a://g/x?y#z"}, {"g%", "a://g%/x?y#z"}, {"C|/", "="},
			{`g\x`, "="}, {`\`, "="}, {"x@g", "="}, {"g h", "="}, {"[g]", "="}, {"g^", "="}, {":", "="}, {":1", "="},
		})
		checkSet(t, "a:/x", name, [][2]string{{"g", "a://g/x"}, {"", "a:///x"}, {":", "="}, {"g h", "="}})
		checkSet(t, "a:/.//x", name, [][2]string{{"g", "a://g//x"}, {"", "a:////x"}})
		checkSet(t, "a://u:p@h:1/x", name, [][2]string{{"g", "a://u:p@g:1/x"}})
	}
	checkSet(t, "a:/x", "host", [][2]string{{"g:80", "a://g:80/x"}, {"g:", "a://g/x"}, {"g:x", "a://g/x"}, {`g:8\`, "a://g:8/x"}, {"[::1]:9", "a://[::1]:9/x"}})
}

func TestP15HostOfFiles(t *testing.T) {
	for _, name := range []string{"host", "hostname"} {
		for _, from := range []string{"file://h/C:/x?y#z", "file:///C:/x?y#z"} {
			checkSet(t, from, name, [][2]string{
				{"G", "file://g/C:/x?y#z"}, {"g/y", "file://g/C:/x?y#z"}, {`g\y`, "file://g/C:/x?y#z"}, {"g?y", "file://g/C:/x?y#z"}, {"g#y", "file://g/C:/x?y#z"}, {"1", "file://0.0.0.1/C:/x?y#z"}, {"[::1]", "file://[::1]/C:/x?y#z"}, {"localhost.", "file://localhost./C:/x?y#z"}, {"\tg", "file://g/C:/x?y#z"},
				{"g:80", "="}, {"g:", "="}, {":", "="}, {"C:", "="}, {"C|", "="}, {"x@g", "="}, {"g h", "="}, {" ", "="}, {"1.09", "="}, {"[::", "="}, {"%", "="},
				{"é", "?"}, {"xn--a/y", "?"}, {"%FF", "?"},
			})
		}
		for _, s := range []string{"", "/g", `\`, "?", "#g", "\t", "localhost", "LocalHost", "loc%61lhost", "localhost/x"} {
			checkSet(t, "file://h/x", name, [][2]string{{s, "file:///x"}})
			checkSet(t, "file:///x", name, [][2]string{{s, "="}})
		}
	}
}

func TestP16Pathname(t *testing.T) {
	checkSet(t, "http://u:p@h:8080/a/b?c#d", "pathname", [][2]string{
		{"x", "http://u:p@h:8080/x?c#d"}, {"/x", "http://u:p@h:8080/x?c#d"}, {`\x\y`, "http://u:p@h:8080/x/y?c#d"}, {"//x", "http://u:p@h:8080//x?c#d"}, {`/\x`, "http://u:p@h:8080//x?c#d"}, {"", "http://u:p@h:8080/?c#d"}, {"/", "http://u:p@h:8080/?c#d"}, {"\t\n", "http://u:p@h:8080/?c#d"}, {"\t/x", "http://u:p@h:8080/x?c#d"}, {"x/../y/.", "http://u:p@h:8080/y/?c#d"}, {"..", "http://u:p@h:8080/?c#d"}, {"%2e%2E/%2e/x", "http://u:p@h:8080/x?c#d"}, {".\t./x", "http://u:p@h:8080/x?c#d"},
		{"?#", "http://u:p@h:8080/%3F%23?c#d"}, {"x?y#z/../w", "http://u:p@h:8080/w?c#d"}, {" x ", "http://u:p@h:8080/%20x%20?c#d"}, {"x y^é\xff", "http://u:p@h:8080/x%20y%5E%C3%A9%EF%BF%BD?c#d"}, {"a/b/", "http://u:p@h:8080/a/b/?c#d"}, {"C|/x", "http://u:p@h:8080/C|/x?c#d"}, {"a:b@c", "http://u:p@h:8080/a:b@c?c#d"}, {"a/b", "="}, {"/a/b", "="}, {"/a/./b", "="},
	})
	unchanged(t, []string{"a:b", "a:", "a:b?c#d", "mailto:x@y"}, "pathname", []string{"", "/", "x", "/x"})
	checkSet(t, "file://h/C:/x", "pathname", [][2]string{{"y", "file://h/y"}, {"D|", "file://h/D:"}, {"/D|/..", "file://h/D:/"}, {"//D|", "file://h//D|"}, {"D|y", "file://h/D|y"}, {`\D|\y`, "file://h/D:/y"}, {"", "file://h/"}, {"../E:/../..", "file://h/E:/"}, {"..", "file://h/"}})
}

func TestP16PathnameOfOthers(t *testing.T) {
	checkSet(t, "a://h/b/c?d", "pathname", [][2]string{{"", "a://h?d"}, {"\t", "a://h?d"}, {"/", "a://h/?d"}, {"\n/", "a://h/?d"}, {"x", "a://h/x?d"}, {"/x", "a://h/x?d"}, {"//", "a://h//?d"}, {`\x`, `a://h/\x?d`}, {"..", "a://h/?d"}, {".", "a://h/?d"}, {"x/..", "a://h/?d"}, {"?", "a://h/%3F?d"}})
	checkSet(t, "a://h", "pathname", [][2]string{{"", "="}, {"x", "a://h/x"}, {"/", "a://h/"}, {".", "a://h/"}})
	checkSet(t, "a:///b", "pathname", [][2]string{{"", "a://"}, {"/", "a:///"}, {"//x", "a:////x"}})
	checkSet(t, "a:/b?c", "pathname", [][2]string{{"", "a:/?c"}, {"\r", "a:/?c"}, {"/", "a:/?c"}, {"x", "a:/x?c"}, {"//x", "a:/.//x?c"}, {"//", "a:/.//?c"}, {"..", "a:/?c"}, {"/..//x", "a:/.//x?c"}})
}

func TestP16Search(t *testing.T) {
	checkSet(t, "http://h/a?b#c", "search", [][2]string{
		{"", "http://h/a#c"}, {"?", "http://h/a?#c"}, {"x", "http://h/a?x#c"}, {"?x", "http://h/a?x#c"}, {"??x", "http://h/a??x#c"}, {"?b", "="}, {"b", "="}, {"\t", "http://h/a?#c"}, {"\n\r", "http://h/a?#c"}, {"\t?x", "http://h/a??x#c"}, {"?\t?x", "http://h/a??x#c"}, {"x\ty\r\n", "http://h/a?xy#c"}, {" x ", "http://h/a?%20x%20#c"}, {" \"#<>'`{}^é\xff", "http://h/a?%20%22%23%3C%3E%27`{}^%C3%A9%EF%BF%BD#c"}, {"#", "http://h/a?%23#c"}, {"\x00", "http://h/a?%00#c"}, {"a=b&c%41", "http://h/a?a=b&c%41#c"},
	})
	checkSet(t, "http://h/", "search", [][2]string{{"", "="}, {"x", "http://h/?x"}, {"?", "http://h/?"}})
	checkSet(t, "a://h", "search", [][2]string{{"x'", "a://h?x'"}, {"\"#", "a://h?%22%23"}, {"", "="}})
	checkSet(t, "a:b", "search", [][2]string{{"x'", "a:b?x'"}, {"?", "a:b?"}, {"", "="}})
	checkSet(t, "file:///x", "search", [][2]string{{"'", "file:///x?%27"}})
}

func TestP16Hash(t *testing.T) {
	checkSet(t, "http://h/a?b#c", "hash", [][2]string{
		{"", "http://h/a?b"}, {"#", "http://h/a?b#"}, {"x", "http://h/a?b#x"}, {"#x", "http://h/a?b#x"}, {"##x", "http://h/a?b##x"}, {"#c", "="}, {"c", "="}, {"\t", "http://h/a?b#"}, {"\r\n", "http://h/a?b#"}, {"\t#x", "http://h/a?b##x"}, {"x\ty", "http://h/a?b#xy"}, {" x ", "http://h/a?b#%20x%20"}, {" \"<>`'#?{}^é\xff", "http://h/a?b#%20%22%3C%3E%60'#?{}^%C3%A9%EF%BF%BD"}, {"?", "http://h/a?b#?"}, {"\x00", "http://h/a?b#%00"},
	})
	checkSet(t, "a:b", "hash", [][2]string{{"x", "a:b#x"}, {"#", "a:b#"}, {"", "="}})
	checkSet(t, "file:///x#", "hash", [][2]string{{"", "file:///x"}})
}

// Blanks at the end of an opaque path stay as long as something follows them.
func TestP16Blanks(t *testing.T) {
	for _, c := range [][4]string{
		{"a:x  ?q", "search", "", "a:x"}, {"a:x  #f", "hash", "", "a:x"}, {"a:  ?", "search", "", "a:"}, {"a: b  #", "hash", "", "a: b"},
		{"a:x  ?q", "search", "?", "a:x  ?"}, {"a:x  ?q", "search", "\t", "a:x  ?"}, {"a:x  #f", "hash", "#", "a:x  #"}, {"a:x  #f", "hash", "\n", "a:x  #"}, {"a:x  ?q", "hash", "", "="}, {"a:x  #f", "search", "", "="}, {"a:x  ?#f", "hash", "", "a:x  ?"}, {"a:x  ?q#", "search", "", "a:x  #"}, {"a:x  ?q", "protocol", "b", "b:x  ?q"},
		{"a:x%20?q", "search", "", "a:x%20"}, {"a:x\x0b ?q", "search", "", "a:x%0B"}, {"a:x \x0b?q", "search", "", "a:x %0B"}, {"a:x\u00a0?q", "search", "", "a:x%C2%A0"}, {"http://h/x ?q", "search", "", "http://h/x%20"},
	} {
		if got := changed(t, c[0], c[1], c[2]); got != c[3] {
			t.Errorf("P16: %q, %s %q is %q, want %q", c[0], c[1], c[2], got, c[3])
		}
	}
	x := read(t, "a:x  ?q#f")
	x.SetHash("")
	if got := x.Href(); got != "a:x  ?q" {
		t.Errorf("P16: without the fragment alone: %q", got)
	}
	x.SetSearch("")
	x.SetHash("g")
	if got := x.Href(); got != "a:x#g" {
		t.Errorf("P16: blanks that went are %q", got)
	}
}

// The texts are as bytes, not as they are written; what would change nothing,
// or fail, is too long all the same.
func TestP14Long(t *testing.T) {
	for _, from := range []string{"http://u:p@h:8080/a?b#c", "a:b  #c", "file:///x", "a:/x"} {
		for _, name := range setters {
			for _, s := range []string{strings.Repeat("9", api.MaxIn+1), strings.Repeat("\t", api.MaxIn+1), strings.Repeat("é", 81), "http://h/" + strings.Repeat("x", 1000), "https:" + strings.Repeat(" ", 155)} {
				x := read(t, from)
				if e := put(x, name, s); e != api.ErrLong || x.Href() != from {
					t.Errorf("P14 to P16: %q, %s of %d bytes: error %d, %q", from, name, len(s), e, x.Href())
				}
			}
		}
	}
	most := strings.Repeat("x", api.MaxIn-2)
	for _, c := range [][3]string{
		{"href", "a:" + most, "a:" + most}, {"protocol", "ftp:" + most[:156], "ftp://h/"}, {"username", "::" + most, "http://%3A%3A" + most + "@h/"}, {"password", "  " + most, "http://:%20%20" + most + "@h/"}, {"host", "g/" + most, "http://g/"}, {"hostname", "g?" + most, "http://g/"}, {"port", "81" + most, "http://h:81/"}, {"pathname", "//" + most, "http://h//" + most}, {"search", "??" + most, "http://h/??" + most}, {"hash", strings.Repeat("é", 80), "http://h/#" + strings.Repeat("%C3%A9", 80)},
	} {
		if got := changed(t, "http://h/", c[0], c[1]); got != c[2] {
			t.Errorf("P14 to P16: %s of %d bytes is %q, want %q", c[0], len(c[1]), got, c[2])
		}
	}
}

// Tabs and line ends go when the bytes have become code points.
func TestP2Setters(t *testing.T) {
	const r = "%EF%BF%BD%EF%BF%BD"
	for _, c := range [][2]string{{"pathname", "http://h/" + r + "?q"}, {"search", "http://h/?" + r}, {"hash", "http://h/?q#" + r}, {"username", "http://%EF%BF%BD%09%EF%BF%BD@h/?q"}} {
		if got := changed(t, "http://h/?q", c[0], "\xc3\t\xa9"); got != c[1] {
			t.Errorf("P2: %s is %q, want %q", c[0], got, c[1])
		}
	}
	checkSet(t, "a://h", "host", [][2]string{{"\xc3\n\xa9", "a://" + r}})
}

// The example of the document, and each part told behind each step.
func TestP13BehindSetters(t *testing.T) {
	x := read(t, "http://u:p@h:8080/a?b#c")
	for _, c := range []struct {
		name, s, href string
		all           api.All
	}{
		{"protocol", "https", "https://u:p@h:8080/a?b#c", api.All{Origin: "https://h:8080", Protocol: "https:", Username: "u", Password: "p", Host: "h:8080", Hostname: "h", Port: "8080", Pathname: "/a", Search: "?b", Hash: "#c"}},
		{"port", "443x", "https://u:p@h/a?b#c", api.All{Origin: "https://h", Protocol: "https:", Username: "u", Password: "p", Host: "h", Hostname: "h", Pathname: "/a", Search: "?b", Hash: "#c"}},
		{"host", "[::1]:9", "https://u:p@[::1]:9/a?b#c", api.All{Origin: "https://[::1]:9", Protocol: "https:", Username: "u", Password: "p", Host: "[::1]:9", Hostname: "[::1]", Port: "9", Pathname: "/a", Search: "?b", Hash: "#c"}},
		{"protocol", "a", "https://u:p@[::1]:9/a?b#c", api.All{Origin: "https://[::1]:9", Protocol: "https:", Username: "u", Password: "p", Host: "[::1]:9", Hostname: "[::1]", Port: "9", Pathname: "/a", Search: "?b", Hash: "#c"}},
		{"search", "?", "https://u:p@[::1]:9/a?#c", api.All{Origin: "https://[::1]:9", Protocol: "https:", Username: "u", Password: "p", Host: "[::1]:9", Hostname: "[::1]", Port: "9", Pathname: "/a", Hash: "#c"}},
		{"href", "a:/.//x", "a:/.//x", api.All{Origin: "null", Protocol: "a:", Pathname: "//x"}},
		{"hostname", "g", "a://g//x", api.All{Origin: "null", Protocol: "a:", Host: "g", Hostname: "g", Pathname: "//x"}},
	} {
		c.all.Href = c.href
		if e := put(x, c.name, c.s); e != api.OK || x.Get() != c.all {
			t.Errorf("P13: %s %q: error %d, %+v, want %+v", c.name, c.s, e, x.Get(), c.all)
		}
	}
}

func TestP1SettersApart(t *testing.T) {
	const from = "http://u:p@h:8080/a/b?c#d"
	x := read(t, from)
	y := read(t, from)
	twin := *x
	z, _ := urls.Parse("", from, true)
	for _, c := range [][2]string{{"pathname", "x/y"}, {"protocol", "https"}, {"username", "n"}, {"password", "q"}, {"host", "g:1"}, {"port", "2"}, {"search", "s"}, {"hash", "t"}} {
		if e := put(x, c[0], c[1]); e != api.OK {
			t.Errorf("P1: %s: error %d", c[0], e)
		}
	}
	if got := x.Href(); got != "https://n:q@g:2/x/y?s#t" {
		t.Errorf("P14 to P16: all setters make %q", got)
	}
	if y.Href() != from || twin.Href() != from || z.Href() != "http://u:p@h:8080/a/b?c" {
		t.Errorf("P1: others changed: %q, %q, %q", y.Href(), twin.Href(), z.Href())
	}
}

func TestP1SettersOfNoURL(t *testing.T) {
	for _, name := range setters {
		var none *urls.URL
		if e := put(none, name, "x"); e != api.OK || none.Href() != "" {
			t.Errorf("P1: %s of nil: error %d", name, e)
		}
		if e := put(none, name, strings.Repeat("x", api.MaxIn+1)); e != api.ErrLong {
			t.Errorf("P1: %s of nil with a long text: error %d", name, e)
		}
		var empty urls.URL
		put(&empty, name, "x")
		empty.Get()
	}
}

// others answers what a setter has no business with: the parts that it may
// change are left away.
func others(all api.All, name string) api.All {
	all.Href, all.Origin = "", ""
	switch name {
	case "href":
		return api.All{}
	case "protocol":
		all.Protocol, all.Host, all.Port = "", "", ""
	case "username":
		all.Username = ""
	case "password":
		all.Password = ""
	case "host", "hostname":
		all.Host, all.Hostname, all.Port = "", "", ""
	case "port":
		all.Host, all.Port = "", ""
	case "pathname":
		all.Pathname = ""
	case "search":
		all.Search, all.Pathname = "", strings.TrimRight(all.Pathname, " ")
	case "hash":
		all.Hash, all.Pathname = "", strings.TrimRight(all.Pathname, " ")
	}
	return all
}

func FuzzP1Setters(f *testing.F) {
	for i, s := range []string{"ftp:x", "https:", "u:", "\t%", "[::1]:9", "g/x", "81x", "/../x", "?q'", "#f"} {
		f.Add("http://u:p@h:8080/a?b#c", i, s)
		f.Add("a:x  ?q", i, s)
		f.Add("file:///C|/x", i, s)
		f.Add("a:/..//x", i, s)
	}
	f.Fuzz(func(t *testing.T, from string, which int, s string) {
		x, _ := urls.Parse(from, "", false)
		if x == nil || which < 0 || which >= len(setters) {
			return
		}
		name := setters[which]
		before := x.Get()
		e := put(x, name, s)
		after := x.Get()
		if (e == api.ErrLong) != (len(s) > api.MaxIn) || e != api.OK && after != before {
			t.Fatalf("P1: %q, %s %q: error %d, %q", from, name, s, e, after.Href)
		}
		if others(after, name) != others(before, name) {
			t.Errorf("P14 to P16: %q, %s %q: %+v became %+v", from, name, s, before, after)
		}
		if again := put(x, name, s); again != e || x.Get() != after {
			t.Errorf("P14 to P16: %q, %s %q: error %d, %q; once more: %d, %q", from, name, s, e, after.Href, again, x.Href())
		}
	})
}

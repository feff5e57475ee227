package urls_test

import (
	"testing"

	"urls/api"
	"urls/urls"
)

// href answers a text's URL as it is written; "!": ErrFail; "?": Unsupported.
func href(t *testing.T, s string) string {
	t.Helper()
	x, e := urls.Parse(s, "", false)
	return told(t, x, e, s)
}

// told tells in one text what Parse answered.
func told(t *testing.T, x *urls.URL, e api.Errno, asked ...string) string {
	t.Helper()
	if (x == nil) != (e != api.OK) {
		t.Fatalf("P1: Parse of %q: a URL: %v, error %d", asked, x != nil, e)
	}
	switch e {
	case api.OK:
		return x.Href()
	case api.ErrFail:
		return "!"
	case api.Unsupported:
		return "?"
	}
	t.Fatalf("P4: Parse of %q: error %d", asked, e)
	return ""
}

// check reads texts; the empty want is the text itself.
func check(t *testing.T, list [][2]string) {
	t.Helper()
	for _, c := range list {
		want := c[1]
		if want == "" {
			want = c[0]
		}
		if got := href(t, c[0]); got != want {
			t.Errorf("Parse(%q) is %q, want %q", c[0], got, want)
		}
	}
}

func TestP2CodePoints(t *testing.T) {
	const r = "%EF%BF%BD"
	check(t, [][2]string{
		{"http://h/é", "http://h/%C3%A9"}, {"http://h/\xf0\x9f", "http://h/" + r}, {"http://h/\xed\xa0\x80", "http://h/" + r + r + r}, {"http://h/\xc0\x80", "http://h/" + r + r},
		{"http://\xff@h/", "http://" + r + "@h/"}, {"http://h/?\xff", "http://h/?" + r}, {"http://h/#\xe2\x82", "http://h/#" + r}, {"a:\xff", "a:" + r}, {"a://\xff/", "a://" + r + "/"},
		// What a tab parts does not become one code point when the tab goes.
		{"http://h/\xf0\x9f\t\x98\x80", "http://h/" + r + r + r}, {"a:\xc3\n\xa9", "a:" + r + r},
	})
}

func TestP3SetsInPlace(t *testing.T) {
	const all = " \"$%&'()*+,-.;<=>[]^_`{|}~"
	check(t, [][2]string{
		{"a:x" + all, ""},
		{"a://h/x#" + all, "a://h/x#%20%22$%&'()*+,-.;%3C=%3E[]^_%60{|}~"},
		{"a://h/x?" + all, "a://h/x?%20%22$%&'()*+,-.;%3C=%3E[]^_`{|}~"},
		{"http://h/x?" + all, "http://h/x?%20%22$%&%27()*+,-.;%3C=%3E[]^_`{|}~"},
		{"file:///x?'", "file:///x?%27"},
		{"http://h/x" + all, "http://h/x%20%22$%&'()*+,-.;%3C=%3E[]%5E_%60%7B|%7D~"},
		{"a://n" + all + ":p:" + all + "@h", "a://n%20%22$%&'()*+,-.%3B%3C%3D%3E%5B%5D%5E_%60%7B%7C%7D~:p%3A%20%22$%&'()*+,-.%3B%3C%3D%3E%5B%5D%5E_%60%7B%7C%7D~@h"},
		{"a:\x01\x1f\x7f", "a:%01%1F%7F"}, {"http://h/\x01\x7f?\x01\x7f#\x01\x7f", "http://h/%01%7F?%01%7F#%01%7F"},
	})
}

func TestP5Ends(t *testing.T) {
	check(t, [][2]string{
		{" \x00\x01\x1f a:b \x1f\x00\n", "a:b"}, {"\ta:b\t", "a:b"}, {"a:b\x7f", "a:b%7F"}, {"\u00a0a:b", "!"}, {"a:b\u00a0", "a:b%C2%A0"}, {"\x21a:b", "!"},
		{"h\tt\nt\rp://e\tx\n/\r?\tq\n#\rf\t.", "http://ex/?q#f."}, {"a:b\x0bc\x0c\x08d", "a:b%0Bc%0C%08d"}, {"a: \tb \t", "a: b"}, {"a:b \t #", "a:b  #"},
		{"", "!"}, {" \t\x00", "!"},
	})
}

func TestP5Cuts(t *testing.T) {
	check(t, [][2]string{
		{"a:b#", ""}, {"a:b?", ""}, {"a:b?#", ""}, {"a:b#c#d?e", ""}, {"a:b?c?d", ""}, {"a:b#?", ""}, {"http://h?a/b@c:d", "http://h/?a/b@c:d"}, {"http://h#a/b@c:d", "http://h/#a/b@c:d"}, {`http://h?a\b#c\d`, `http://h/?a\b#c\d`}, {"a:?", ""}, {"a:#", ""}, {"http:?x", "!"}, {"http:#x", "!"},
	})
}

func TestP5Schemes(t *testing.T) {
	check(t, [][2]string{
		{"a:", ""}, {"Z:x", "z:x"}, {"aB+9-z.Q:x", "ab+9-z.q:x"}, {"HTTPS://h/", "https://h/"}, {"a:b:c", ""}, {"abcdefghijklmnopqrstuvwxyz0123456789+-.:", ""},
		{":", "!"}, {":x", "!"}, {"1a:x", "!"}, {"+a:x", "!"}, {"-a:x", "!"}, {".a:x", "!"}, {"a b:x", "!"}, {"a_b:x", "!"}, {"a/b:x", "!"}, {"a?b:x", "!"}, {"a#b:x", "!"}, {"é:x", "!"}, {"aé:x", "!"}, {"a%41:x", "!"}, {"a@:x", "!"}, {"a[:x", "!"}, {"a`:x", "!"}, {"a{:x", "!"}, {"a;:x", "!"}, {"a,:x", "!"}, {"a*:x", "!"},
		{"x", "!"}, {"example", "!"}, {"/x", "!"}, {"//h/x", "!"}, {"?x", "!"}, {"#x", "!"}, {"[::1]", "!"}, {"a", "!"}, {"http", "!"},
	})
}

func TestP6WithScheme(t *testing.T) {
	check(t, [][2]string{
		{"https:example.org", "https://example.org/"}, {"https://////example.com///", "https://example.com///"}, {"http:/h", "http://h/"}, {`ws:\h`, "ws://h/"}, {`wss:/\/\h\x`, "wss://h/x"}, {"ftp:h", "ftp://h/"}, {"http:", "!"}, {"http:/", "!"}, {"http://", "!"}, {"http:////", "!"}, {"http:../x", "http://../x"},
		{"a://h", ""}, {"a://", ""}, {"a:///", ""}, {"a:///x", ""}, {"a:////x", ""}, {"a:/", ""}, {"a:/x", ""}, {"a:/x/../y", "a:/y"}, {"a:x", ""}, {"a:x/../y", ""}, {"a:", ""}, {"hello:world", ""}, {`a:\x`, ""}, {`a:\\h\x`, ""}, {`a:/\x`, ""}, {"a:.", ""}, {"a:x//y", ""}, {"mailto:x@y", ""}, {"a:é<>", "a:%C3%A9<>"},
	})
}

func TestP8NameAndPassword(t *testing.T) {
	check(t, [][2]string{
		{"http://n@h/", ""}, {"http://n:p@h/", ""}, {"a://n:p@h", ""}, {"http://a@b@h/", "http://a%40b@h/"}, {"http://a:b:c@h/", "http://a:b%3Ac@h/"}, {"http://a:b@c:d@h/", "http://a:b%40c%3Ad@h/"}, {"http://:p@h/", ""}, {"http://n:@h/", "http://n@h/"}, {"http://:@h/", "http://h/"}, {"http://@h/", "http://h/"}, {"http://::@h/", "http://:%3A@h/"}, {"a://@@h", "a://%40@h"}, {"http://[n:p@h/", "http://%5Bn:p@h/"}, {"http://%41:%zz@h/", ""},
		{"http://n@", "!"}, {"http://n@/", "!"}, {"a://n@", "!"}, {"a://n@/x", "!"}, {"a://@", "!"}, {"a://@/", "!"}, {"http://n@?x", "!"}, {"a://n@:", "!"}, {"http://é@/", "!"},
		{"http://h/n@x", ""}, {"http://n:p/x@h", "!"}, {`http://n\@h`, "http://n/@h"}, {`a://n\x@h`, "a://n%5Cx@h"}, {"a://n/x@h", ""},
	})
}

func TestP8HostAndPort(t *testing.T) {
	check(t, [][2]string{
		{"http://h:8080/", ""}, {"http://h:80/", "http://h/"}, {"https://h:443/", "https://h/"}, {"https://h:80/", ""}, {"ws://h:80/", "ws://h/"}, {"wss://h:443/", "wss://h/"}, {"ftp://h:21/", "ftp://h/"}, {"a://h:80", ""}, {"http://h:00080/", "http://h/"}, {"http://h:000000000000000000000000000000008/", "http://h:8/"}, {"http://h:0/", ""}, {"a://h:0", ""}, {"http://h:/", "http://h/"}, {"a://h:", "a://h"}, {"a://h:/x", "a://h/x"}, {"http://h:65535", "http://h:65535/"},
		{"http://h:65536/", "!"}, {"a://h:65536", "!"}, {"http://h:18446744073709551696/", "!"}, {"http://h:4294967376/", "!"}, {"http://h:8a/", "!"}, {"http://h:a/", "!"}, {"http://h:-1/", "!"}, {"http://h:+1/", "!"}, {"http://h: 1/", "!"}, {"http://h:1 /", "!"}, {"http://h:%31/", "!"}, {"http://h:80:80/", "!"}, {"http://h::80/", "!"}, {"http://h:é/", "!"}, {`a://h:8\x`, "!"}, {`http://h:8\x`, "http://h:8/x"},
		{"http://:80/", "!"}, {"http://:/", "!"}, {"a://:80", "!"}, {"a://:", "!"}, {"a://n@:80", "!"}, {"a:///", ""}, {"a://n:p@h:1/x?q#f", ""},
		{"http://[::1]:9/", ""}, {"a://[1::]:9", ""}, {"http://[::1]9/", "!"}, {"http://[::1/", "!"}, {"http://[::1:9/", "!"}, {"a://[a:9", "!"}, {"http://]:9/", "!"}, {"http://[::1]]:9/", "!"},
		// The host's error comes ahead of the port's.
		{"http://é:x/", "?"}, {"http://xn--a:99999/", "?"},
	})
}

func TestP8Path(t *testing.T) {
	check(t, [][2]string{
		{"http://h", "http://h/"}, {"http://h/", ""}, {"a://h", ""}, {"a://h/", ""}, {"a://h?q", ""}, {"a://h#f", ""}, {"http://h?q", "http://h/?q"}, {`http://h\x\y`, "http://h/x/y"}, {"http://h//x", ""}, {`a://h\x`, "!"}, {"a://h/..", "a://h/"}, {"a:///..", "a:///"},
	})
}

func TestP9Paths(t *testing.T) {
	check(t, [][2]string{
		{"https://EXAMPLE.com/../x", "https://example.com/x"}, {"http://h/a/b/../c/./d", "http://h/a/c/d"}, {"http://h/a/b/..", "http://h/a/"}, {"http://h/a/%2e", "http://h/a/"}, {"http://h/a/b/%2E.", "http://h/a/"}, {"http://h/...", ""}, {`http://h/a\..\b`, "http://h/b"}, {`a://h/a\..\b`, ""}, {"https://example.org/foo bar", "https://example.org/foo%20bar"}, {"http://h/C|/../x", "http://h/x"}, {"file:///C|/../x", "file:///C:/x"},
	})
}

func TestP10Hosts(t *testing.T) {
	check(t, [][2]string{
		{"http://256/", "http://0.0.1.0/"}, {"http://0x7F.1/", "http://127.0.0.1/"}, {"http://1.09/", "!"}, {"http://1.2.3.256/", "!"}, {"http://[1:0:0:2:0:0:0:3]/", "http://[1:0:0:2::3]/"}, {"http://[::ffff:1.2.3.4]/", "http://[::ffff:102:304]/"}, {"http://xn--a/", "?"}, {"http://a%2Fb/", "!"}, {"http://E%58/", "http://ex/"}, {"a://E%58", ""}, {"a://256", ""}, {"a://h h", "!"}, {"a://[::01]", "a://[::1]"},
	})
}

func TestP11Files(t *testing.T) {
	check(t, [][2]string{
		{"file:", "file:///"}, {"file:x", "file:///x"}, {"file:x/../y", "file:///y"}, {"file:/", "file:///"}, {"file:/x", "file:///x"}, {"file:x//y", "file:///x//y"}, {"file://", "file:///"}, {"file:///", ""}, {"file:///x", ""}, {"file:////x", ""}, {"file://///x", ""}, {`file:\x`, "file:///x"}, {`file:\\h\x`, "file://h/x"}, {`file:/\h/x`, "file://h/x"}, {"FILE:?q#f", "file:///?q#f"}, {"file://h?q", "file://h/?q"},
		{"file://H", "file://h/"}, {"file://h/x", ""}, {"file://localhost/x", "file:///x"}, {"file://LOCALHOST", "file:///"}, {"file://loc%61lhost/x", "file:///x"}, {"file://localhost./x", ""}, {"file://1/x", "file://0.0.0.1/x"}, {"file://[::1]/x", ""}, {"file://%43:/x", "!"}, {"file://%43|/x", "!"},
		{"file://h:80/", "!"}, {"file://ho:/", "!"}, {"file://n@h/", "!"}, {"file://n:p@h/", "!"}, {"file://a b/", "!"}, {"file://1.09/", "!"}, {"file://[::/", "!"}, {"file://é/", "?"}, {"file://xn--a/", "?"},
		{"file://C|/x", "file:///C:/x"}, {"file://C:/x", "file:///C:/x"}, {"file://c:", "file:///c:"}, {`file:\\C|\x`, "file:///C:/x"}, {"file://C|x/y", "!"}, {"file://1:/x", "!"}, {"file:C|/x", "file:///C:/x"}, {"file:/C|/x", "file:///C:/x"}, {"file:///C|/demo", "file:///C:/demo"}, {"file:///C:/../..", "file:///C:/"}, {"file://h/C|/..", "file://h/C:/"}, {"file:////C|/..", "file:////"},
	})
}

func TestP12Text(t *testing.T) {
	check(t, [][2]string{
		{"web+demo:/..//x", "web+demo:/.//x"}, {"a:/.//", ""}, {"a:/.//x/y", ""}, {"a:/./x", "a:/x"}, {"a:////x", ""}, {"a:///", ""}, {"http://h//x", ""}, {"a:?#", ""}, {"a://n:p@h:1/x/?q#f", ""},
	})
}

// What was written is read as the same URL.
func TestP12Again(t *testing.T) {
	for _, s := range []string{
		"http://n:p@h:8080/a/../b c?d'e#f`g", "a:/..//x", "a://", "a:///x", "a:b c?d#e", "file:///C|/../x", "file://C|", "file:////x", "http://0x7F.1", "http://[1:0:0:2:0:0:0:3]:80", "a://H%41é:9", "http://a@b:c:d@h", "blob:https://h/x",
	} {
		once := href(t, s)
		if again := href(t, once); again != once {
			t.Errorf("P12: %q is %q, and that is %q", s, once, again)
		}
	}
}

package urls_test

import (
	"strings"
	"testing"

	"urls/api"
	"urls/urls"
)

func TestP4Long(t *testing.T) {
	s := "a:" + strings.Repeat("x", api.MaxIn-2)
	if x, e := urls.Parse(s, strings.Repeat("x", api.MaxIn+1), false); e != api.OK || x == nil || x.Href() != s {
		t.Errorf("P4: %d bytes: error %d", len(s), e)
	}
	for _, c := range []struct {
		s, base string
		based   bool
	}{
		{s + "x", "", false}, {" " + s, "", false}, {strings.Repeat("x", 1000), "", false}, {strings.Repeat("é", 81), "", false},
		{s + "x", "a:b", true}, {s + "x", "no base", true}, {"a:b", s + "x", true}, {"no scheme", strings.Repeat("x", 161), true},
	} {
		if x, e := urls.Parse(c.s, c.base, c.based); e != api.ErrLong || x != nil {
			t.Errorf("P4: Parse(%q, %q, %v): error %d, want ErrLong", c.s, c.base, c.based, e)
		}
	}
	// Code points count by their bytes, and what is written may be longer.
	e := "a:" + strings.Repeat("é", 79)
	if got := href(t, e); got != "a:"+strings.Repeat("%C3%A9", 79) {
		t.Errorf("P4: 79 times é is %q", got)
	}
}

func TestP4Errors(t *testing.T) {
	for _, c := range []struct {
		s, base string
		based   bool
		want    api.Errno
	}{
		{"x", "", false, api.ErrFail}, {"http://", "", false, api.ErrFail}, {"http://é/", "", false, api.Unsupported}, {"x", "a:b", false, api.ErrFail},
		{"a:b", "", true, api.ErrBase}, {"a:b", "x", true, api.ErrBase}, {"x", "http://h:x/", true, api.ErrBase}, {"http://é/", "x", true, api.ErrBase}, {"a:b", strings.Repeat("x", api.MaxIn), true, api.ErrBase},
		{"a:b", "http://é/", true, api.Unsupported}, {"x", "http://xn--a/", true, api.Unsupported},
	} {
		if x, e := urls.Parse(c.s, c.base, c.based); e != c.want || x != nil {
			t.Errorf("P4: Parse(%q, %q, %v): error %d, want %d", c.s, c.base, c.based, e, c.want)
		}
	}
	if x, e := urls.Parse("a:b", "x", false); e != api.OK || x == nil {
		t.Errorf("P4: a base that is not asked for: error %d", e)
	}
}

func TestP13Parts(t *testing.T) {
	for _, want := range []api.All{
		{Href: "http://u:p@h:8080/a?b#c", Origin: "http://h:8080", Protocol: "http:", Username: "u", Password: "p", Host: "h:8080", Hostname: "h", Port: "8080", Pathname: "/a", Search: "?b", Hash: "#c"},
		{Href: "https://:p@h/?#", Origin: "https://h", Protocol: "https:", Password: "p", Host: "h", Hostname: "h", Pathname: "/"},
		{Href: "ws://u@[::1]:0/x/y?q#", Origin: "ws://[::1]:0", Protocol: "ws:", Username: "u", Host: "[::1]:0", Hostname: "[::1]", Port: "0", Pathname: "/x/y", Search: "?q"},
		{Href: "wss://h/#?", Origin: "wss://h", Protocol: "wss:", Host: "h", Hostname: "h", Pathname: "/", Hash: "#?"},
		{Href: "ftp://h:22/", Origin: "ftp://h:22", Protocol: "ftp:", Host: "h:22", Hostname: "h", Port: "22", Pathname: "/"},
		{Href: "file://h/C:/x", Origin: "null", Protocol: "file:", Host: "h", Hostname: "h", Pathname: "/C:/x"},
		{Href: "file:///", Origin: "null", Protocol: "file:", Pathname: "/"},
		{Href: "a://n:p@h:80", Origin: "null", Protocol: "a:", Username: "n", Password: "p", Host: "h:80", Hostname: "h", Port: "80"},
		{Href: "a:///x", Origin: "null", Protocol: "a:", Pathname: "/x"},
		{Href: "a:/.//x", Origin: "null", Protocol: "a:", Pathname: "//x"},
		{Href: "a:b c?d#e", Origin: "null", Protocol: "a:", Pathname: "b c", Search: "?d", Hash: "#e"},
		{Href: "a:", Origin: "null", Protocol: "a:"},
	} {
		x, e := urls.Parse(want.Href, "", false)
		if e != api.OK || x == nil {
			t.Errorf("P13: Parse(%q): error %d", want.Href, e)
			continue
		}
		if got := x.Get(); got != want {
			t.Errorf("P13: %+v, want %+v", got, want)
		}
		if x.Href() != want.Href || x.Origin() != want.Origin {
			t.Errorf("P13: Href %q, Origin %q of %q", x.Href(), x.Origin(), want.Href)
		}
	}
}

func TestP13BlobOrigins(t *testing.T) {
	for _, c := range [][2]string{
		{"blob:http://h/x", "http://h"}, {"blob:https://u:p@H:444/x?y#z", "https://h:444"}, {"blob:https://h:443/", "https://h"}, {"blob:http:h", "http://h"}, {"blob:HTTP://1/", "http://0.0.0.1"}, {"blob: http://h ?", "http://h"},
		{"blob:ws://h/", "null"}, {"blob:wss://h/", "null"}, {"blob:ftp://h/", "null"}, {"blob:file:///x", "null"}, {"blob:a:b", "null"}, {"blob:blob:http://h/", "null"},
		{"blob:", "null"}, {"blob:x", "null"}, {"blob:http://", "null"}, {"blob:http://é/", "null"}, {"blob:http://xn--a/", "null"}, {"blob:/http://h/", "null"}, {"blob://http://h/", "null"}, {"blobs:http://h/", "null"},
		{"blob:http://h/" + strings.Repeat("é", 73), "http://h"},
	} {
		x, e := urls.Parse(c[0], "", false)
		if e != api.OK || x == nil {
			t.Errorf("P13: Parse(%q): error %d", c[0], e)
			continue
		}
		if x.Origin() != c[1] || x.Get().Origin != c[1] {
			t.Errorf("P13: the origin of %q is %q, want %q", c[0], x.Origin(), c[1])
		}
	}
}

// Parse answers nil with an error: the getters bear that, and a URL that was
// never read.
func TestP1NoURL(t *testing.T) {
	var none *urls.URL
	if none.Get() != (api.All{}) || none.Href() != "" || none.Origin() != "" {
		t.Errorf("P1: the getters of nil tell something")
	}
	var empty urls.URL
	if got := empty.Origin(); got != "null" || empty.Get().Host != "" {
		t.Errorf("P1: the origin of an empty URL is %q", got)
	}
}

func FuzzP1Parse(f *testing.F) {
	for _, s := range []string{"http://u:p@h:8080/a?b#c", "file:///C|/..", "a:b", "http://[::1.2.3.4]/", "blob:http://h/", "http://0x7f.1/", "\xf0\x9f", "a:/..//x"} {
		f.Add(s)
	}
	f.Fuzz(func(t *testing.T, s string) {
		x, e := urls.Parse(s, "", false)
		if (x == nil) != (e != api.OK) || (e == api.ErrLong) != (len(s) > api.MaxIn) {
			t.Fatalf("P4: Parse(%q): error %d", s, e)
		}
		if x == nil {
			return
		}
		all := x.Get()
		if all.Href != x.Href() || all.Origin != x.Origin() {
			t.Errorf("P13: of %q: %+v", s, all)
		}
		for i := 0; i < len(all.Href); i++ {
			if all.Href[i] < 32 || all.Href[i] > 126 {
				t.Errorf("P3: %q is written %q", s, all.Href)
			}
		}
	})
}

package parts

import "testing"

func TestP12Href(t *testing.T) {
	for _, c := range []struct {
		u    URL
		want string
	}{
		{URL{Scheme: "a"}, "a:"},
		{URL{Scheme: "a", HasHost: true}, "a://"},
		{URL{Scheme: "a", HasHost: true, Host: "h"}, "a://h"},
		{URL{Scheme: "a", HasHost: true, Host: "h", Name: "n"}, "a://n@h"},
		{URL{Scheme: "a", HasHost: true, Host: "h", Password: "p"}, "a://:p@h"},
		{URL{Scheme: "a", HasHost: true, Host: "h", Name: "n", Password: "p"}, "a://n:p@h"},
		{URL{Scheme: "a", HasHost: true, Host: "h", HasPort: true}, "a://h:0"},
		{URL{Scheme: "a", HasHost: true, Host: "h", HasPort: true, Port: 65535}, "a://h:65535"},
		{URL{Scheme: "a", Opaque: true, OpaquePath: "x y"}, "a:x y"},
		{URL{Scheme: "a", Segments: []string{""}}, "a:/"},
		{URL{Scheme: "a", Segments: []string{"", ""}}, "a:/.//"},
		{URL{Scheme: "a", Segments: []string{"", "x"}}, "a:/.//x"},
		{URL{Scheme: "a", Segments: []string{"x", ""}}, "a:/x/"},
		{URL{Scheme: "a", HasHost: true, Segments: []string{"", "x"}}, "a:////x"},
		{URL{Scheme: "a", HasQuery: true}, "a:?"},
		{URL{Scheme: "a", HasFragment: true}, "a:#"},
		{URL{Scheme: "a", HasQuery: true, Query: "q", HasFragment: true, Fragment: "f"}, "a:?q#f"},
	} {
		if got := c.u.Href(); got != c.want {
			t.Errorf("P12: %+v is %q, want %q", c.u, got, c.want)
		}
	}
}

func TestP13Getters(t *testing.T) {
	u := URL{Scheme: "a", HasHost: true, Host: "h", HasPort: true, Port: 9, Segments: []string{"", "x"}, HasQuery: true, Query: "q", HasFragment: true, Fragment: "f"}
	got := [6]string{u.Protocol(), u.HostPort(), u.PortText(), u.Pathname(), u.Search(), u.Hash()}
	if want := [6]string{"a:", "h:9", "9", "//x", "?q", "#f"}; got != want {
		t.Errorf("P13: %q, want %q", got, want)
	}
	u = URL{Scheme: "a", Segments: []string{"", "x"}, HasQuery: true, HasFragment: true}
	got = [6]string{u.Protocol(), u.HostPort(), u.PortText(), u.Pathname(), u.Search(), u.Hash()}
	if want := [6]string{"a:", "", "", "//x", "", ""}; got != want {
		t.Errorf("P13: %q, want %q", got, want)
	}
}

func TestP8AtPort(t *testing.T) {
	for _, c := range []struct {
		scheme string
		port   int
		want   string
	}{
		{"http", 80, ""}, {"http", 443, "443"}, {"https", 443, ""}, {"ftp", 21, ""}, {"a", 80, "80"}, {"a", 0, "0"}, {"file", 0, "0"},
	} {
		before := URL{Scheme: c.scheme, HasHost: true, Host: "h", HasPort: true, Port: 9}
		u := before.AtPort(c.port)
		if u.PortText() != c.want || u.HasPort != (c.want != "") || before.Port != 9 {
			t.Errorf("P8: the port %d of %s is %q", c.port, c.scheme, u.PortText())
		}
		if gone := u.WithoutPort(); gone.HasPort || gone.Port != 0 || gone.Host != "h" {
			t.Errorf("P15: without the port: %+v", gone)
		}
	}
}

func TestP16Without(t *testing.T) {
	both := URL{Scheme: "a", Opaque: true, OpaquePath: " x  ", HasQuery: true, Query: "q", HasFragment: true, Fragment: "f"}
	noQuery := both.WithoutQuery()
	noFragment := both.WithoutFragment()
	for _, c := range []struct {
		u    URL
		want string
	}{
		{noQuery, "a: x  #f"}, {noFragment, "a: x  ?q"}, {noQuery.WithoutFragment(), "a: x"}, {noFragment.WithoutQuery(), "a: x"}, {both, "a: x  ?q#f"},
		{URL{Scheme: "a", Opaque: true, OpaquePath: "  "}.WithoutQuery(), "a:"}, {URL{Scheme: "a", Segments: []string{"x "}}.WithoutFragment(), "a:/x "},
	} {
		if got := c.u.Href(); got != c.want {
			t.Errorf("P16: %q, want %q", got, c.want)
		}
	}
	if noQuery.Query != "" || noFragment.Fragment != "" {
		t.Errorf("P16: a text is left: %+v, %+v", noQuery, noFragment)
	}
}

package parts

import "testing"

func TestP12Href(t *testing.T) {
	for _, c := range []struct {
		u    URL
		want string
	}{
		{URL{Scheme: "a"}, "a:"},
		{URL{Scheme: "a", HasHost: true}, "a://"},
		{URL{Scheme: "a", HasHost: true, Host: "h"}, "a://h"},
		{URL{Scheme: "a", HasHost: true, Host: "h", Name: "n"}, "a://n@h"},
		{URL{Scheme: "a", HasHost: true, Host: "h", Password: "p"}, "a://:p@h"},
		{URL{Scheme: "a", HasHost: true, Host: "h", Name: "n", Password: "p"}, "a://n:p@h"},
		{URL{Scheme: "a", HasHost: true, Host: "h", HasPort: true}, "a://h:0"},
		{URL{Scheme: "a", HasHost: true, Host: "h", HasPort: true, Port: 65535}, "a://h:65535"},
		{URL{Scheme: "a", Opaque: true, OpaquePath: "x y"}, "a:x y"},
		{URL{Scheme: "a", Segments: []string{""}}, "a:/"},
		{URL{Scheme: "a", Segments: []string{"", ""}}, "a:/.//"},
		{URL{Scheme: "a", Segments: []string{"", "x"}}, "a:/.//x"},
		{URL{Scheme: "a", Segments: []string{"x", ""}}, "a:/x/"},
		{URL{Scheme: "a", HasHost: true, Segments: []string{"", "x"}}, "a:////x"},
		{URL{Scheme: "a", HasQuery: true}, "a:?"},
		{URL{Scheme: "a", HasFragment: true}, "a:#"},
		{URL{Scheme: "a", HasQuery: true, Query: "q", HasFragment: true, Fragment: "f"}, "a:?q#f"},
	} {
		if got := c.u.Href(); got != c.want {
			t.Errorf("P12: %+v is %q, want %q", c.u, got, c.want)
		}
	}
}

func TestP13Getters(t *testing.T) {
	u := URL{Scheme: "a", HasHost: true, Host: "h", HasPort: true, Port: 9, Segments: []string{"", "x"}, HasQuery: true, Query: "q", HasFragment: true, Fragment: "f"}
	got := [6]string{u.Protocol(), u.HostPort(), u.PortText(), u.Pathname(), u.Search(), u.Hash()}
	if want := [6]string{"a:", "h:9", "9", "//x", "?q", "#f"}; got != want {
		t.Errorf("P13: %q, want %q", got, want)
	}
	u = URL{Scheme: "a", Segments: []string{"", "x"}, HasQuery: true, HasFragment: true}
	got = [6]string{u.Protocol(), u.HostPort(), u.PortText(), u.Pathname(), u.Search(), u.Hash()}
	if want := [6]string{"a:", "", "", "//x", "", ""}; got != want {
		t.Errorf("P13: %q, want %q", got, want)
	}
}

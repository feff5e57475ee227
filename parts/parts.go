// Package parts: what a URL has, and how it is written (P12, P13).
package parts

import "strconv"

// URL has the parts of one URL. A text that a URL may lack has a Has beside
// it; it is empty where that is false. The path is OpaquePath if Opaque is
// true, else Segments; a list that is once in a URL is not written into.
type URL struct {
	Scheme      string
	Name        string
	Password    string
	HasHost     bool
	Host        string
	HasPort     bool
	Port        int
	Opaque      bool
	OpaquePath  string
	Segments    []string
	HasQuery    bool
	Query       string
	HasFragment bool
	Fragment    string
}

// Href writes the whole URL.
func (u URL) Href() string {
	text := u.Protocol()
	text += u.front()
	text += u.Pathname()
	if u.HasQuery {
		text += "?" + u.Query
	}
	if u.HasFragment {
		text += "#" + u.Fragment
	}
	return text
}

// front writes what stands between the scheme and the path.
func (u URL) front() string {
	if u.HasHost {
		user := u.user()
		return "//" + user + u.HostPort()
	}
	// Without this the path would be read as a host.
	if !u.Opaque && len(u.Segments) > 1 && u.Segments[0] == "" {
		return "/."
	}
	return ""
}

func (u URL) user() string {
	if u.Name == "" && u.Password == "" {
		return ""
	}
	text := u.Name
	if u.Password != "" {
		text += ":" + u.Password
	}
	return text + "@"
}

// Protocol writes the scheme with its colon.
func (u URL) Protocol() string {
	return u.Scheme + ":"
}

// HostPort writes the host and the port, if there is one.
func (u URL) HostPort() string {
	if !u.HasPort {
		return u.Host
	}
	return u.Host + ":" + u.PortText()
}

// PortText writes the port; it is empty if there is none.
func (u URL) PortText() string {
	if !u.HasPort {
		return ""
	}
	return strconv.Itoa(u.Port)
}

// Pathname writes the path alone.
func (u URL) Pathname() string {
	if u.Opaque {
		return u.OpaquePath
	}
	text := ""
	for i := 0; i < len(u.Segments); i++ {
		text += "/" + u.Segments[i]
	}
	return text
}

// Search writes the query as the getter tells it.
func (u URL) Search() string {
	return marked("?", u.Query)
}

// Hash writes the fragment as the getter tells it.
func (u URL) Hash() string {
	return marked("#", u.Fragment)
}

// marked puts the mark ahead of a text, but not of an empty one: the getters
// tell no difference between an empty text and none.
func marked(mark string, text string) string {
	if text == "" {
		return ""
	}
	return mark + text
}

// Package reading reads texts as URLs (P5, P6, P8, P11).
package reading

import (
	"urls/api"
	"urls/ascii"
	"urls/parts"
	"urls/paths"
	"urls/percent"
	"urls/points"
	"urls/schemes"
)

// Text reads a text of any length without a base.
func Text(s string) (parts.URL, api.Errno) {
	clean := points.Clean(s)
	trimmed := trim(clean)
	whole := withoutBreaks(trimmed)
	ahead, fragment, hasFragment := ascii.Cut(whole, '#')
	scheme, rest, found := cutScheme(ahead)
	if !found {
		return parts.URL{}, api.ErrFail
	}
	left, query, hasQuery := ascii.Cut(rest, '?')
	u := parts.URL{Scheme: scheme, HasQuery: hasQuery, HasFragment: hasFragment}
	set := querySet(scheme)
	u.Query = percent.Encode(query, set)
	u.Fragment = percent.Encode(fragment, percent.Fragment)
	return withScheme(u, left)
}

// trim takes blanks and controls away at both ends.
func trim(s string) string {
	start := 0
	for start < len(s) && s[start] <= ' ' {
		start++
	}
	end := len(s)
	for end > start && s[end-1] <= ' ' {
		end--
	}
	return s[start:end]
}

// withoutBreaks takes tabs, line feeds and carriage returns away.
func withoutBreaks(s string) string {
	out := []byte{}
	for i := 0; i < len(s); i++ {
		c := s[i]
		if c != '\t' && c != '\n' && c != '\r' {
			out = append(out, c)
		}
	}
	return string(out)
}

// cutScheme answers the scheme in small letters and what is behind its colon,
// if there is a scheme.
func cutScheme(s string) (string, string, bool) {
	name, rest, colon := ascii.Cut(s, ':')
	if !colon || !isScheme(name) {
		return "", "", false
	}
	return ascii.Lower(name), rest, true
}

func isScheme(name string) bool {
	if name == "" || !ascii.Letter(name[0]) {
		return false
	}
	for i := 1; i < len(name); i++ {
		c := name[i]
		mark := c == '+' || c == '-' || c == '.' || '0' <= c && c <= '9'
		if !mark && !ascii.Letter(c) {
			return false
		}
	}
	return true
}

func querySet(scheme string) percent.Set {
	if schemes.Special(scheme) {
		return percent.SpecialQuery
	}
	return percent.Query
}

// withScheme reads what is left between the scheme and the query.
func withScheme(u parts.URL, left string) (parts.URL, api.Errno) {
	if u.Scheme == schemes.File {
		return readFile(u, left)
	}
	if schemes.Special(u.Scheme) {
		n := schemes.CountSlashes(left, true)
		return readAuthority(u, left[n:])
	}
	switch schemes.CountSlashes(left, false) {
	case 0:
		u.Opaque = true
		u.OpaquePath = percent.Encode(left, percent.Control)
	case 1:
		u.Segments = paths.Read(left[1:], u.Scheme)
	default:
		return readAuthority(u, left[2:])
	}
	return u, api.OK
}

// Package reading reads texts as URLs (P5 to P8, P11).
package reading

import (
	"urls/api"
	"urls/ascii"
	"urls/parts"
	"urls/paths"
	"urls/percent"
	"urls/points"
	"urls/schemes"
)

// Text reads a text of any length without a base.
func Text(s string) (parts.URL, api.Errno) {
	return Against(s, parts.URL{})
}

// Against reads a text of any length against a base. A base without a scheme,
// which no URL is that was read, is none.
func Against(s string, base parts.URL) (parts.URL, api.Errno) {
	clean := points.Clean(s)
	trimmed := trim(clean)
	whole := ascii.WithoutBreaks(trimmed)
	ahead, fragment, hasFragment := ascii.Cut(whole, '#')
	read, err := readAhead(ahead, hasFragment, base)
	if err != api.OK {
		return parts.URL{}, err
	}
	read.HasFragment = hasFragment
	read.Fragment = percent.Encode(fragment, percent.Fragment)
	return read, api.OK
}

// readAhead reads what is ahead of the fragment.
func readAhead(ahead string, hasFragment bool, base parts.URL) (parts.URL, api.Errno) {
	scheme, rest, found := schemes.Cut(ahead)
	if !found && base.Opaque {
		return againstOpaque(rest, hasFragment, base)
	}
	if !found {
		scheme = base.Scheme
	}
	if scheme == "" {
		return parts.URL{}, api.ErrFail
	}
	left, query, hasQuery := ascii.Cut(rest, '?')
	u := parts.URL{Scheme: scheme, HasQuery: hasQuery}
	special := schemes.Special(scheme)
	set := percent.OfQuery(special)
	u.Query = percent.Encode(query, set)
	if found {
		return withScheme(u, left, base)
	}
	return withoutScheme(u, left, base)
}

// againstOpaque reads a text without a scheme: an opaque path has no segments
// that it could follow, so that it can bring nothing but a fragment.
func againstOpaque(rest string, hasFragment bool, base parts.URL) (parts.URL, api.Errno) {
	if rest != "" || !hasFragment {
		return parts.URL{}, api.ErrFail
	}
	return base, api.OK
}

// trim takes blanks and controls away at both ends.
func trim(s string) string {
	start := 0
	for start < len(s) && s[start] <= ' ' {
		start++
	}
	end := len(s)
	for end > start && s[end-1] <= ' ' {
		end--
	}
	return s[start:end]
}

// withScheme reads what is left between the scheme and the query (P6).
func withScheme(u parts.URL, left string, base parts.URL) (parts.URL, api.Errno) {
	if u.Scheme == schemes.File {
		return readFile(u, left, base)
	}
	if schemes.Special(u.Scheme) {
		return withSpecial(u, left, base)
	}
	switch schemes.CountSlashes(left, false) {
	case 0:
		u.Opaque = true
		u.OpaquePath = percent.Encode(left, percent.Control)
	case 1:
		u.Segments = paths.Read(left[1:], u.Scheme)
	default:
		return readAuthority(u, left[2:])
	}
	return u, api.OK
}

// withSpecial reads what is left behind a special scheme. Only two slashes of
// the form / keep it from being read against a base of that scheme.
func withSpecial(u parts.URL, left string, base parts.URL) (parts.URL, api.Errno) {
	if base.Scheme == u.Scheme && schemes.CountSlashes(left, false) < 2 {
		return withoutScheme(u, left, base)
	}
	n := schemes.CountSlashes(left, true)
	return readAuthority(u, left[n:])
}

package reading

import (
	"urls/api"
	"urls/parts"
	"urls/paths"
	"urls/schemes"
)

// withoutScheme reads what is left ahead of the query against a base of the
// same scheme (P7).
func withoutScheme(u parts.URL, left string, base parts.URL) (parts.URL, api.Errno) {
	if u.Scheme == schemes.File {
		return readFile(u, left, base)
	}
	special := schemes.Special(u.Scheme)
	slashes := schemes.CountSlashes(left, special)
	switch {
	case slashes > 1 && special:
		return readAuthority(u, left[slashes:])
	case slashes > 1:
		return readAuthority(u, left[2:])
	}
	u.Name = base.Name
	u.Password = base.Password
	u.HasHost = base.HasHost
	u.Host = base.Host
	u.HasPort = base.HasPort
	u.Port = base.Port
	if slashes == 1 {
		u.Segments = paths.Read(left[1:], u.Scheme)
		return u, api.OK
	}
	return beside(u, left, base), api.OK
}

// beside reads a path that no slash begins. An empty one is the base's, and
// takes the base's query with it unless it brings its own.
func beside(u parts.URL, left string, base parts.URL) parts.URL {
	if left != "" {
		u.Segments = paths.Beside(base.Segments, left, u.Scheme)
		return u
	}
	u.Segments = paths.Copy(base.Segments)
	if !u.HasQuery {
		u.HasQuery = base.HasQuery
		u.Query = base.Query
	}
	return u
}

package reading

import (
	"urls/api"
	"urls/hosts"
	"urls/parts"
	"urls/paths"
	"urls/schemes"
)

// readFile reads what is left of a file's text (P11).
func readFile(u parts.URL, left string, base parts.URL) (parts.URL, api.Errno) {
	u.HasHost = true
	slashes := schemes.CountSlashes(left, true)
	if slashes > 1 {
		return readFileHost(u, left[2:])
	}
	if base.Scheme != schemes.File {
		u.Segments = paths.Read(left[slashes:], u.Scheme)
		return u, api.OK
	}
	u.Host = base.Host
	if slashes == 1 {
		u.Segments = paths.OnDrive(base.Segments, left[1:])
		return u, api.OK
	}
	if paths.DriveAhead(left) {
		u.Segments = paths.Read(left, u.Scheme)
		return u, api.OK
	}
	return beside(u, left, base), api.OK
}

// readFileHost reads what is behind a file's two slashes.
func readFileHost(u parts.URL, text string) (parts.URL, api.Errno) {
	host, path, _ := schemes.CutSlash(text, true)
	if paths.Drive(host) {
		// A drive there was meant for the path.
		u.Segments = paths.Read(text, u.Scheme)
		return u, api.OK
	}
	written, err := hosts.ReadFile(host)
	if err != api.OK {
		return parts.URL{}, err
	}
	u.Host = written
	u.Segments = paths.Read(path, u.Scheme)
	return u, api.OK
}

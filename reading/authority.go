package reading

import (
	"urls/api"
	"urls/ascii"
	"urls/hosts"
	"urls/parts"
	"urls/paths"
	"urls/percent"
	"urls/schemes"
)

// readAuthority reads name, password, host, port and path (P8).
func readAuthority(u parts.URL, text string) (parts.URL, api.Errno) {
	special := schemes.Special(u.Scheme)
	ahead, behind, slash := schemes.CutSlash(text, special)
	user, place, at := ascii.CutLast(ahead, '@')
	if at && place == "" {
		return parts.URL{}, api.ErrFail
	}
	name, password, _ := ascii.Cut(user, ':')
	u.Name = percent.Encode(name, percent.User)
	u.Password = percent.Encode(password, percent.User)
	placed, err := readPlace(u, place)
	if err != api.OK {
		return parts.URL{}, err
	}
	if special || slash {
		placed.Segments = paths.Read(behind, u.Scheme)
	}
	return placed, api.OK
}

// readPlace reads host and port. The host comes first: where both are wrong,
// its error is told.
func readPlace(u parts.URL, place string) (parts.URL, api.Errno) {
	special := schemes.Special(u.Scheme)
	host, port, colon := hosts.CutPort(place)
	if host == "" && (special || colon) {
		return parts.URL{}, api.ErrFail
	}
	written, err := hosts.Read(host, special)
	if err != api.OK {
		return parts.URL{}, err
	}
	u.HasHost = true
	u.Host = written
	if port == "" {
		return u, api.OK
	}
	number, ok := schemes.ReadPort(port)
	if !ok {
		return parts.URL{}, api.ErrFail
	}
	return u.AtPort(number), api.OK
}

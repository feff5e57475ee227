package reading

import (
	"urls/api"
	"urls/ascii"
	"urls/hosts"
	"urls/parts"
	"urls/paths"
	"urls/percent"
	"urls/schemes"
)

// mostPort is the greatest port.
const mostPort = 65535

// readAuthority reads name, password, host, port and path (P8).
func readAuthority(u parts.URL, text string) (parts.URL, api.Errno) {
	special := schemes.Special(u.Scheme)
	ahead, behind, slash := schemes.CutSlash(text, special)
	user, place, at := ascii.CutLast(ahead, '@')
	if at && place == "" {
		return parts.URL{}, api.ErrFail
	}
	name, password, _ := ascii.Cut(user, ':')
	u.Name = percent.Encode(name, percent.User)
	u.Password = percent.Encode(password, percent.User)
	placed, err := readPlace(u, place)
	if err != api.OK {
		return parts.URL{}, err
	}
	if special || slash {
		placed.Segments = paths.Read(behind, u.Scheme)
	}
	return placed, api.OK
}

// readPlace reads host and port. The host comes first: where both are wrong,
// its error is told.
func readPlace(u parts.URL, place string) (parts.URL, api.Errno) {
	special := schemes.Special(u.Scheme)
	host, port, colon := cutPort(place)
	if host == "" && (special || colon) {
		return parts.URL{}, api.ErrFail
	}
	written, err := hosts.Read(host, special)
	if err != api.OK {
		return parts.URL{}, err
	}
	u.HasHost = true
	u.Host = written
	if port == "" {
		return u, api.OK
	}
	number, ok := ascii.Number(port, 10, mostPort)
	if !ok || number > mostPort {
		return parts.URL{}, api.ErrFail
	}
	own, owned := schemes.OwnPort(u.Scheme)
	if !owned || int(number) != own {
		u.HasPort = true
		u.Port = int(number)
	}
	return u, api.OK
}

// cutPort cuts at the first colon that is in no brackets.
func cutPort(place string) (string, string, bool) {
	inside := false
	for i := 0; i < len(place); i++ {
		switch place[i] {
		case '[':
			inside = true
		case ']':
			inside = false
		case ':':
			if !inside {
				return place[:i], place[i+1:], true
			}
		}
	}
	return place, "", false
}

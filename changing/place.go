package changing

import (
	"urls/api"
	"urls/ascii"
	"urls/hosts"
	"urls/parts"
	"urls/schemes"
)

// mayHavePort tells whether the URL may have a name, a password and a port.
func mayHavePort(u parts.URL) bool {
	return u.Host != "" && u.Scheme != schemes.File
}

func putPort(u parts.URL, text string) parts.URL {
	if !mayHavePort(u) {
		return u
	}
	if text == "" {
		return u.WithoutPort()
	}
	plain := ascii.WithoutBreaks(text)
	return atDigits(u, plain)
}

// atDigits puts the port that the text begins with, if it begins with one.
func atDigits(u parts.URL, text string) parts.URL {
	end := 0
	for end < len(text) && '0' <= text[end] && text[end] <= '9' {
		end++
	}
	port, ok := schemes.ReadPort(text[:end])
	if !ok {
		return u
	}
	return u.AtPort(port)
}

// putHost changes the host, and if ported the port too, if the text has one.
func putHost(u parts.URL, text string, ported bool) (parts.URL, api.Errno) {
	if u.Opaque {
		return u, api.OK
	}
	host, port, err := readPlace(u, text, ported)
	if err == api.ErrFail {
		return u, api.OK
	}
	if err != api.OK {
		return parts.URL{}, err
	}
	u.HasHost = true
	u.Host = host
	return atDigits(u, port), api.OK
}

// readPlace answers the host that the text has for the URL, as it is written,
// and what stands in the port's place: ErrFail, if the URL can have no such
// host.
func readPlace(u parts.URL, text string, ported bool) (string, string, api.Errno) {
	special := schemes.Special(u.Scheme)
	place := aheadOfPath(text, special)
	if u.Scheme == schemes.File {
		written, err := hosts.ReadFile(place)
		return written, "", err
	}
	host, port, colon := hosts.CutPort(place)
	if colon && !ported {
		return "", "", api.ErrFail
	}
	if host == "" && (colon || special || hasUser(u) || u.HasPort) {
		return "", "", api.ErrFail
	}
	written, err := hosts.Read(host, special)
	if err != api.OK {
		return "", "", err
	}
	return written, port, api.OK
}

// aheadOfPath answers what of the text could be host and port.
func aheadOfPath(text string, special bool) string {
	plain := ascii.WithoutBreaks(text)
	ahead, _, _ := schemes.CutSlash(plain, special)
	ahead, _, _ = ascii.Cut(ahead, '?')
	ahead, _, _ = ascii.Cut(ahead, '#')
	return ahead
}

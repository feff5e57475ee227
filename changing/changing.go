// Package changing changes URLs part by part (P14 to P16).
package changing

import (
	"urls/api"
	"urls/ascii"
	"urls/parts"
	"urls/percent"
	"urls/points"
	"urls/reading"
	"urls/schemes"
)

// Part names what is changed, as the setters name it.
type Part int

const (
	Href     Part = 0
	Protocol Part = 1
	Username Part = 2
	Password Part = 3
	Host     Part = 4
	Hostname Part = 5
	Port     Part = 6
	Pathname Part = 7
	Search   Part = 8
	Hash     Part = 9
)

// Put answers the URL with the part changed to a text of any length; it is as
// it was if the text does not fit, and only some misfits are errors.
func Put(u parts.URL, part Part, s string) (parts.URL, api.Errno) {
	// Bytes that a tab parts must not join when it goes.
	text := points.Clean(s)
	switch part {
	case Href:
		return reading.Text(text)
	case Host:
		return putHost(u, text, true)
	case Hostname:
		return putHost(u, text, false)
	}
	return putPlain(u, part, text), api.OK
}

// putPlain changes a part that has no errors.
func putPlain(u parts.URL, part Part, text string) parts.URL {
	switch part {
	case Protocol:
		return putProtocol(u, text)
	case Username, Password:
		return putUser(u, part, text)
	case Port:
		return putPort(u, text)
	case Pathname:
		return putPathname(u, text)
	case Search:
		return putSearch(u, text)
	case Hash:
		return putHash(u, text)
	}
	return u
}

func putProtocol(u parts.URL, text string) parts.URL {
	plain := ascii.WithoutBreaks(text)
	scheme, _, found := schemes.Cut(plain + ":")
	if !found || !mayBecome(u, scheme) {
		return u
	}
	u.Scheme = scheme
	if u.HasPort {
		return u.AtPort(u.Port)
	}
	return u
}

// mayBecome tells whether the URL's other parts can stand with the scheme.
func mayBecome(u parts.URL, scheme string) bool {
	before := schemes.Special(u.Scheme)
	after := schemes.Special(scheme)
	if before != after {
		return false
	}
	if scheme == schemes.File && (hasUser(u) || u.HasPort) {
		return false
	}
	return u.Scheme != schemes.File || u.Host != ""
}

func hasUser(u parts.URL) bool {
	return u.Name != "" || u.Password != ""
}

func putUser(u parts.URL, part Part, text string) parts.URL {
	if !mayHavePort(u) {
		return u
	}
	coded := percent.Encode(text, percent.User)
	if part == Username {
		u.Name = coded
	} else {
		u.Password = coded
	}
	return u
}

// Package hosts reads hosts and writes them anew (P10).
package hosts

import (
	"urls/api"
	"urls/ascii"
	"urls/percent"
)

// What no host may have in it; a special scheme's host has none of the rest of
// the controls, % and DEL either.
const forbidden = "\x00\t\n\r #/:<>?@[\\]^|"

// Read answers a host as it is written: ErrFail or Unsupported, if it is none.
func Read(text string, special bool) (string, api.Errno) {
	if text != "" && text[0] == '[' {
		return readBrackets(text)
	}
	if special {
		return readDomain(text)
	}
	return readOther(text)
}

// ReadFile answers a file's host as it is written (P11): it may be empty, and
// localhost is.
func ReadFile(text string) (string, api.Errno) {
	if text == "" {
		return "", api.OK
	}
	written, err := Read(text, true)
	if err != api.OK || written == "localhost" {
		return "", err
	}
	return written, api.OK
}

// CutPort answers what is ahead of the first colon that is in no brackets and
// what is behind it, and whether there is one; if there is none, all of place
// is ahead.
func CutPort(place string) (string, string, bool) {
	inside := false
	for i := 0; i < len(place); i++ {
		switch place[i] {
		case '[':
			inside = true
		case ']':
			inside = false
		case ':':
			if !inside {
				return place[:i], place[i+1:], true
			}
		}
	}
	return place, "", false
}

func readBrackets(text string) (string, api.Errno) {
	if len(text) < 2 || text[len(text)-1] != ']' {
		return "", api.ErrFail
	}
	address, ok := readIPv6(text[1 : len(text)-1])
	if !ok {
		return "", api.ErrFail
	}
	return "[" + writeIPv6(address) + "]", api.OK
}

// readOther reads the host of a scheme that is not special.
func readOther(text string) (string, api.Errno) {
	for i := 0; i < len(text); i++ {
		if ascii.Contains(forbidden, text[i]) {
			return "", api.ErrFail
		}
	}
	return percent.Encode(text, percent.Control), api.OK
}

func readDomain(text string) (string, api.Errno) {
	decoded := percent.Decode(text)
	domain := ascii.Lower(decoded)
	parts := ascii.Split(domain, '.')
	beyond := beyondASCII(domain)
	coded := anyPunycode(parts)
	if beyond || coded {
		return "", api.Unsupported
	}
	if !plainDomain(domain) {
		return "", api.ErrFail
	}
	parts = withoutEmptyEnd(parts)
	if !endsInNumber(parts) {
		return domain, api.OK
	}
	value, ok := readIPv4(parts)
	if !ok {
		return "", api.ErrFail
	}
	return writeIPv4(value), api.OK
}

// beyondASCII tells whether there is a code point above 127: bytes that are
// none count as U+FFFD, so that every byte above 127 means one.
func beyondASCII(domain string) bool {
	for i := 0; i < len(domain); i++ {
		if domain[i] > 127 {
			return true
		}
	}
	return false
}

// anyPunycode tells whether a part, in small letters, begins with xn--.
func anyPunycode(parts []string) bool {
	for i := 0; i < len(parts); i++ {
		part := parts[i]
		if len(part) >= 4 && part[:4] == "xn--" {
			return true
		}
	}
	return false
}

// plainDomain tells whether there is something, and nothing that may not be
// in a domain.
func plainDomain(domain string) bool {
	for i := 0; i < len(domain); i++ {
		c := domain[i]
		if c < 32 || c == '%' || c == 127 || ascii.Contains(forbidden, c) {
			return false
		}
	}
	return domain != ""
}

// withoutEmptyEnd leaves the last part away if it is empty and not the only
// one: a domain may end with a dot.
func withoutEmptyEnd(parts []string) []string {
	n := len(parts)
	if n > 1 && parts[n-1] == "" {
		return parts[:n-1]
	}
	return parts
}

// Package schemes: what hangs on a URL's scheme.
package schemes

import "urls/ascii"

// File is the special scheme that has rules of its own.
const File = "file"

// mostPort is the greatest port.
const mostPort = 65535

// Cut answers the scheme that s begins with, in small letters, and what is
// behind its colon (P5.3); if there is none, the rest is all of s.
func Cut(s string) (string, string, bool) {
	name, rest, colon := ascii.Cut(s, ':')
	if !colon || !isScheme(name) {
		return "", s, false
	}
	return ascii.Lower(name), rest, true
}

func isScheme(name string) bool {
	if name == "" || !ascii.Letter(name[0]) {
		return false
	}
	for i := 1; i < len(name); i++ {
		c := name[i]
		mark := c == '+' || c == '-' || c == '.' || '0' <= c && c <= '9'
		if !mark && !ascii.Letter(c) {
			return false
		}
	}
	return true
}

// Special tells whether a scheme, in small letters, is special.
func Special(scheme string) bool {
	_, ported := OwnPort(scheme)
	return ported || scheme == File
}

// OwnPort tells the port that a special scheme has by itself, if it has one.
func OwnPort(scheme string) (int, bool) {
	switch scheme {
	case "http", "ws":
		return 80, true
	case "https", "wss":
		return 443, true
	case "ftp":
		return 21, true
	}
	return 0, false
}

// ReadPort tells the port that digits say, if there are digits alone and the
// number is not too great for one.
func ReadPort(digits string) (int, bool) {
	number, ok := ascii.Number(digits, 10, mostPort)
	if !ok || number > mostPort {
		return 0, false
	}
	return int(number), true
}

// Slash tells whether c is a slash where the scheme is special or is not.
func Slash(c byte, special bool) bool {
	return c == '/' || special && c == '\\'
}

// CutSlash answers what is ahead of the first slash and what is behind it, and
// whether there is one; if there is none, all of s is ahead.
func CutSlash(s string, special bool) (string, string, bool) {
	for i := 0; i < len(s); i++ {
		if Slash(s[i], special) {
			return s[:i], s[i+1:], true
		}
	}
	return s, "", false
}

// CountSlashes tells how many slashes s begins with.
func CountSlashes(s string, special bool) int {
	n := 0
	for n < len(s) && Slash(s[n], special) {
		n++
	}
	return n
}

// Package percent: texts percent-encoded and percent-decoded (P3).
package percent

import (
	"urls/ascii"
	"urls/points"
)

// Set names a set of code points that are percent-encoded.
type Set int

const (
	Control      Set = 0
	Fragment     Set = 1
	Query        Set = 2
	SpecialQuery Set = 3
	Path         Set = 4
	User         Set = 5
	Component    Set = 6
	Form         Set = 7
)

// What is in a set beside the controls and all above 126.
const (
	inFragment     = " \"<>`"
	inQuery        = " \"#<>"
	inSpecialQuery = inQuery + "'"
	inPath         = inQuery + "?^{}`"
	inUser         = inPath + "/:;=@[\\]|"
	inComponent    = inUser + "$%&+,"
	inForm         = inComponent + "!'()~"
)

// OfQuery tells the set of a query, by whether the scheme is special.
func OfQuery(special bool) Set {
	if special {
		return SpecialQuery
	}
	return Query
}

func members(set Set) string {
	switch set {
	case Fragment:
		return inFragment
	case Query:
		return inQuery
	case SpecialQuery:
		return inSpecialQuery
	case Path:
		return inPath
	case User:
		return inUser
	case Component:
		return inComponent
	case Form:
		return inForm
	}
	return ""
}

// Encode answers s, read as code points, percent-encoded by the set.
func Encode(s string, set Set) string {
	clean := points.Clean(s)
	named := members(set)
	out := []byte{}
	for i := 0; i < len(clean); i++ {
		c := clean[i]
		// All bytes of a code point above 126 are above 126 themselves.
		if c < 32 || c > 126 || ascii.Contains(named, c) {
			high := capital(c >> 4)
			low := capital(c & 15)
			out = append(out, '%', high, low)
		} else {
			out = append(out, c)
		}
	}
	return string(out)
}

// capital writes n, below 16, as a digit to the base 16.
func capital(n byte) byte {
	if n < 10 {
		return '0' + n
	}
	return 'A' + n - 10
}

// Decode answers the bytes of s with each % and two digits as that byte.
func Decode(s string) string {
	out := []byte{}
	i := 0
	for i < len(s) {
		c, coded := codedByte(s[i:])
		if coded {
			out = append(out, c)
			i += 3
		} else {
			out = append(out, s[i])
			i++
		}
	}
	return string(out)
}

// codedByte tells the byte that s begins with in its percent form, if it does.
func codedByte(s string) (byte, bool) {
	if len(s) < 3 || s[0] != '%' {
		return 0, false
	}
	high, highOK := ascii.Digit(s[1], 16)
	low, lowOK := ascii.Digit(s[2], 16)
	if !highOK || !lowOK {
		return 0, false
	}
	return byte(high*16 + low), true
}

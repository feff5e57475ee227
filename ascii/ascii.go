// Package ascii: letters, digits and cuts of texts at single bytes.
package ascii

// Letter tells whether c is a letter, small or capital.
func Letter(c byte) bool {
	return 'a' <= c && c <= 'z' || 'A' <= c && c <= 'Z'
}

// Lower answers s with its capital letters as small ones.
func Lower(s string) string {
	out := []byte{}
	for i := 0; i < len(s); i++ {
		c := s[i]
		if 'A' <= c && c <= 'Z' {
			c += 'a' - 'A'
		}
		out = append(out, c)
	}
	return string(out)
}

// Digit tells what c says as a digit to the base (at most 16), if it is one.
func Digit(c byte, base int64) (int64, bool) {
	n := base
	switch {
	case '0' <= c && c <= '9':
		n = int64(c - '0')
	case 'a' <= c && c <= 'f':
		n = int64(c-'a') + 10
	case 'A' <= c && c <= 'F':
		n = int64(c-'A') + 10
	}
	if n >= base {
		return 0, false
	}
	return n, true
}

// Number tells what s says, if it is one digit or more to the base and
// nothing else. A number above most is told as most+1, so that a text of any
// length can be read without running over.
func Number(s string, base int64, most int64) (int64, bool) {
	if s == "" {
		return 0, false
	}
	n := int64(0)
	for i := 0; i < len(s); i++ {
		d, ok := Digit(s[i], base)
		if !ok {
			return 0, false
		}
		if n <= most {
			n = n*base + d
		}
	}
	if n > most {
		return most + 1, true
	}
	return n, true
}

// Package points reads bytes as code points (P2).
package points

// replacement is U+FFFD in UTF-8: it stands for bytes that are no code point.
const replacement = "\xEF\xBF\xBD"

// Clean answers s with each run of bytes that is no code point as U+FFFD.
// Behind it every byte below 128 is a code point by itself, so that the
// readers can cut texts at such bytes and lose none.
func Clean(s string) string {
	out := []byte{}
	i := 0
	for i < len(s) {
		size, good := measure(s[i:])
		if good {
			out = append(out, s[i:i+size]...)
		} else {
			out = append(out, replacement...)
		}
		i += size
	}
	return string(out)
}

// measure tells how many bytes at the beginning of s (which is not empty)
// count as one code point, and whether they are one.
func measure(s string) (int, bool) {
	if s == "" {
		return 0, false
	}
	want, low, high := follow(s[0])
	size := 1
	for size < want && size < len(s) && low <= s[size] && s[size] <= high {
		// Only the second byte has bounds of its own.
		low, high = 0x80, 0xBF
		size++
	}
	return size, size == want
}

// follow tells how many bytes a code point has that begins with b (0: none
// does), and between which bounds its second byte lies. The bounds keep out
// longer forms than need be, surrogates, and what is above U+10FFFF.
func follow(b byte) (int, byte, byte) {
	switch {
	case b < 0x80:
		return 1, 0, 0
	case b < 0xC2:
		return 0, 0, 0
	case b < 0xE0:
		return 2, 0x80, 0xBF
	case b == 0xE0:
		return 3, 0xA0, 0xBF
	case b == 0xED:
		return 3, 0x80, 0x9F
	case b < 0xF0:
		return 3, 0x80, 0xBF
	case b == 0xF0:
		return 4, 0x90, 0xBF
	case b < 0xF4:
		return 4, 0x80, 0xBF
	case b == 0xF4:
		return 4, 0x80, 0x8F
	}
	return 0, 0, 0
}

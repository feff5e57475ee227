package ascii

// Contains tells whether c stands in s.
func Contains(s string, c byte) bool {
	for i := 0; i < len(s); i++ {
		if s[i] == c {
			return true
		}
	}
	return false
}

// Cut answers what is ahead of the first c and what is behind it, and whether
// there is one; if there is none, all of s is ahead.
func Cut(s string, c byte) (string, string, bool) {
	for i := 0; i < len(s); i++ {
		if s[i] == c {
			return s[:i], s[i+1:], true
		}
	}
	return s, "", false
}

// CutLast answers what is ahead of the last c and what is behind it, and
// whether there is one; if there is none, all of s is behind.
func CutLast(s string, c byte) (string, string, bool) {
	for i := len(s) - 1; i >= 0; i-- {
		if s[i] == c {
			return s[:i], s[i+1:], true
		}
	}
	return "", s, false
}

// Split answers what stands between the c's of s: one text at least.
func Split(s string, c byte) []string {
	list := []string{}
	rest := s
	more := true
	for more {
		ahead, behind, found := Cut(rest, c)
		list = append(list, ahead)
		rest = behind
		more = found
	}
	return list
}

// WithoutBreaks answers s without its tabs, line feeds and carriage returns.
func WithoutBreaks(s string) string {
	out := []byte{}
	for i := 0; i < len(s); i++ {
		c := s[i]
		if c != '\t' && c != '\n' && c != '\r' {
			out = append(out, c)
		}
	}
	return string(out)
}

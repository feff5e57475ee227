// Package paths reads paths (P9) and drives.
package paths

import (
	"urls/ascii"
	"urls/percent"
	"urls/schemes"
)

// Drive tells whether s is a drive: a letter and : or |.
func Drive(s string) bool {
	return len(s) == 2 && ascii.Letter(s[0]) && (s[1] == ':' || s[1] == '|')
}

// A path while it is read. The slice is the path's own: nothing else holds it.
type path struct {
	file     bool
	segments []string
}

// Read answers the segments of a text in a URL of the scheme.
func Read(text string, scheme string) []string {
	special := schemes.Special(scheme)
	p := path{file: scheme == schemes.File}
	rest := text
	more := true
	for more {
		segment, behind, found := schemes.CutSlash(rest, special)
		p.take(segment, !found)
		rest = behind
		more = found
	}
	return p.segments
}

// take does what one segment asks for; last, if it is the text's last.
func (p *path) take(segment string, last bool) {
	dots := countDots(segment)
	if dots == 2 {
		p.shorten()
	}
	switch {
	case dots == 0:
		p.join(segment)
	case last:
		p.segments = append(p.segments, "")
	}
}

// join puts a segment without dots to the path's end.
func (p *path) join(segment string) {
	text := percent.Encode(segment, percent.Path)
	if p.file && len(p.segments) == 0 && Drive(segment) {
		text = segment[:1] + ":"
	}
	p.segments = append(p.segments, text)
}

// shorten takes the last segment away, but never a file's drive: that is its
// root.
func (p *path) shorten() {
	n := len(p.segments)
	if n == 0 {
		return
	}
	if p.file && n == 1 && written(p.segments[0]) {
		return
	}
	p.segments = p.segments[:n-1]
}

// written tells whether s is a drive as it stands in a path: with a colon.
func written(s string) bool {
	return Drive(s) && s[1] == ':'
}

// countDots tells whether a segment is one dot or two dots, and 0 if it is
// neither.
func countDots(segment string) int {
	rest := segment
	n := 0
	for n < 3 && rest != "" {
		size := dotSize(rest)
		if size == 0 {
			return 0
		}
		rest = rest[size:]
		n++
	}
	if n > 2 {
		return 0
	}
	return n
}

// dotSize tells how many bytes the dot has that s begins with, and 0 if it
// begins with none.
func dotSize(s string) int {
	if s != "" && s[0] == '.' {
		return 1
	}
	if len(s) >= 3 && s[0] == '%' && s[1] == '2' && (s[2] == 'e' || s[2] == 'E') {
		return 3
	}
	return 0
}

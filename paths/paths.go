// Package paths reads paths, alone and against a base's (P7, P9, P11), and
// drives.
package paths

import (
	"urls/ascii"
	"urls/percent"
	"urls/schemes"
)

// Drive tells whether s is a drive: a letter and : or |.
func Drive(s string) bool {
	return len(s) == 2 && ascii.Letter(s[0]) && (s[1] == ':' || s[1] == '|')
}

// DriveAhead tells whether the first segment of a file's text is a drive.
func DriveAhead(text string) bool {
	first, _, _ := schemes.CutSlash(text, true)
	return Drive(first)
}

// A path while it is read. The slice is the path's own: nothing else holds it.
type path struct {
	file     bool
	special  bool
	segments []string
}

// Read answers the segments of a text in a URL of the scheme.
func Read(text string, scheme string) []string {
	p := begin(nil, scheme)
	p.follow(text)
	return p.segments
}

// Beside answers the segments of a text that stands in the place of the
// base's last segment.
func Beside(base []string, text string, scheme string) []string {
	p := begin(base, scheme)
	p.shorten()
	p.follow(text)
	return p.segments
}

// OnDrive answers the segments of a file's text; they stand on the base's
// drive, if the base has one and the text none.
func OnDrive(base []string, text string) []string {
	if len(base) == 0 || !written(base[0]) || DriveAhead(text) {
		return Read(text, schemes.File)
	}
	p := begin(base[:1], schemes.File)
	p.follow(text)
	return p.segments
}

// Copy answers a list of its own with the same segments.
func Copy(segments []string) []string {
	own := make([]string, len(segments))
	for i := 0; i < len(own); i++ {
		own[i] = segments[i]
	}
	return own
}

// begin answers a path that has these segments so far.
func begin(segments []string, scheme string) path {
	p := path{file: scheme == schemes.File}
	p.special = schemes.Special(scheme)
	p.segments = Copy(segments)
	return p
}

// follow puts the segments of a text behind those of the path.
func (p *path) follow(text string) {
	rest := text
	more := true
	for more {
		segment, behind, found := schemes.CutSlash(rest, p.special)
		p.take(segment, !found)
		rest = behind
		more = found
	}
}

// take does what one segment asks for; last, if it is the text's last.
func (p *path) take(segment string, last bool) {
	dots := countDots(segment)
	if dots == 2 {
		p.shorten()
	}
	switch {
	case dots == 0:
		p.join(segment)
	case last:
		p.segments = append(p.segments, "")
	}
}

// join puts a segment without dots to the path's end.
func (p *path) join(segment string) {
	text := percent.Encode(segment, percent.Path)
	if p.file && len(p.segments) == 0 && Drive(segment) {
		text = segment[:1] + ":"
	}
	p.segments = append(p.segments, text)
}

// shorten takes the last segment away, but never a file's drive: that is its
// root.
func (p *path) shorten() {
	n := len(p.segments)
	if n == 0 {
		return
	}
	if p.file && n == 1 && written(p.segments[0]) {
		return
	}
	p.segments = p.segments[:n-1]
}

// written tells whether s is a drive as it stands in a path: with a colon.
func written(s string) bool {
	return Drive(s) && s[1] == ':'
}

// countDots tells whether a segment is one dot or two dots, and 0 if it is
// neither.
func countDots(segment string) int {
	rest := segment
	n := 0
	for n < 3 && rest != "" {
		size := dotSize(rest)
		if size == 0 {
			return 0
		}
		rest = rest[size:]
		n++
	}
	if n > 2 {
		return 0
	}
	return n
}

// dotSize tells how many bytes the dot has that s begins with, and 0 if it
// begins with none.
func dotSize(s string) int {
	if s != "" && s[0] == '.' {
		return 1
	}
	if len(s) >= 3 && s[0] == '%' && s[1] == '2' && (s[2] == 'e' || s[2] == 'E') {
		return 3
	}
	return 0
}

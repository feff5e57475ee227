package changing

import (
	"urls/ascii"
	"urls/parts"
	"urls/paths"
	"urls/percent"
	"urls/schemes"
)

func putPathname(u parts.URL, text string) parts.URL {
	if u.Opaque {
		return u
	}
	special := schemes.Special(u.Scheme)
	plain := ascii.WithoutBreaks(text)
	if plain == "" && !special && u.HasHost {
		u.Segments = nil
		return u
	}
	if plain != "" && schemes.Slash(plain[0], special) {
		plain = plain[1:]
	}
	u.Segments = paths.Read(plain, u.Scheme)
	return u
}

func putSearch(u parts.URL, text string) parts.URL {
	if text == "" {
		return u.WithoutQuery()
	}
	special := schemes.Special(u.Scheme)
	set := percent.OfQuery(special)
	plain := withoutMark(text, '?')
	u.HasQuery = true
	u.Query = percent.Encode(plain, set)
	return u
}

func putHash(u parts.URL, text string) parts.URL {
	if text == "" {
		return u.WithoutFragment()
	}
	plain := withoutMark(text, '#')
	u.HasFragment = true
	u.Fragment = percent.Encode(plain, percent.Fragment)
	return u
}

// withoutMark takes one mark ahead away, and then tabs and line ends: a mark
// behind a tab is no mark.
func withoutMark(text string, mark byte) string {
	if text != "" && text[0] == mark {
		text = text[1:]
	}
	return ascii.WithoutBreaks(text)
}

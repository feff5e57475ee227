// Package pairs: the pairs of a query, read off it and written as one (P17,
// P19), and changes of their list (P18).
package pairs

import (
	"urls/api"
	"urls/ascii"
	"urls/percent"
	"urls/points"
)

// Read answers the pairs of a query: a fresh list, nil if there are none.
func Read(query string) []api.Pair {
	texts := filled(query)
	if len(texts) == 0 {
		return nil
	}
	list := make([]api.Pair, len(texts))
	for i := 0; i < len(texts); i++ {
		list[i] = readPair(texts[i])
	}
	return list
}

// filled answers what stands between the &'s and is not empty.
func filled(query string) []string {
	all := ascii.Split(query, '&')
	texts := []string{}
	for i := 0; i < len(all); i++ {
		if all[i] != "" {
			texts = append(texts, all[i])
		}
	}
	return texts
}

func readPair(text string) api.Pair {
	name, value, _ := ascii.Cut(text, '=')
	pair := api.Pair{}
	pair.Name = readText(name)
	pair.Value = readText(value)
	return pair
}

func readText(text string) string {
	// A + that stands there in its percent form is no blank.
	blanked := withBlanks(text)
	decoded := percent.Decode(blanked)
	return points.Clean(decoded)
}

// withBlanks answers the text with each + as a blank.
func withBlanks(text string) string {
	out := []byte{}
	for i := 0; i < len(text); i++ {
		c := text[i]
		if c == '+' {
			c = ' '
		}
		out = append(out, c)
	}
	return string(out)
}

// Write answers the query that has these pairs. Read gives them back from it,
// as code points.
func Write(list []api.Pair) string {
	text := ""
	for i := 0; i < len(list); i++ {
		if i > 0 {
			text += "&"
		}
		text += writePair(list[i])
	}
	return text
}

func writePair(pair api.Pair) string {
	name := writeText(pair.Name)
	value := writeText(pair.Value)
	return name + "=" + value
}

// writeText goes from blank to blank, since the set would have them too.
func writeText(text string) string {
	words := ascii.Split(text, ' ')
	out := ""
	for i := 0; i < len(words); i++ {
		if i > 0 {
			out += "+"
		}
		out += percent.Encode(words[i], percent.Form)
	}
	return out
}

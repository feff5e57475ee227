package pairs

import "urls/api"

// Sort answers the pairs in the order of their names as UTF-16 units; equal
// names stay in the order they had.
func Sort(list []api.Pair) []api.Pair {
	sorted := duplicate(list)
	for i := 1; i < len(sorted); i++ {
		pair := sorted[i]
		place := i
		for place > 0 && ahead(pair.Name, sorted[place-1].Name) {
			sorted[place] = sorted[place-1]
			place--
		}
		sorted[place] = pair
	}
	return sorted
}

// ahead tells whether the name a comes ahead of the name b.
func ahead(a string, b string) bool {
	i := 0
	for i < len(a) && i < len(b) && a[i] == b[i] {
		i++
	}
	if i == len(a) || i == len(b) {
		return len(a) < len(b)
	}
	first := rank(a[i])
	second := rank(b[i])
	return first < second
}

// rank tells the place of a byte, so that names compared by their bytes are in
// the order of their UTF-16 units. That is the order of their code points, but
// for one thing: those from U+10000 on (first byte F0 to F4) begin with a
// surrogate there, and come ahead of U+E000 to U+FFFF (first byte EE or EF).
func rank(c byte) byte {
	switch {
	case c >= 0xF0:
		return c - 2
	case c >= 0xEE:
		return c + 5
	}
	return c
}

package hosts

import (
	"strconv"

	"urls/ascii"
)

// groups is a list of up to eight groups of an IPv6 address.
type groups struct {
	list  [8]int64
	count int
}

// add puts one more group to the end, if there is room.
func (g *groups) add(n int64) bool {
	if g.count >= len(g.list) {
		return false
	}
	g.list[g.count] = n
	g.count++
	return true
}

// readIPv6 reads what stands between the brackets.
func readIPv6(text string) ([8]int64, bool) {
	ahead, behind, gap := cutGap(text)
	if !gap {
		return readWhole(text)
	}
	front, frontOK := readGroups(ahead, false)
	back, backOK := readGroups(behind, true)
	if !frontOK || !backOK || front.count+back.count > 7 {
		return [8]int64{}, false
	}
	address := front.list
	for i := 0; i < back.count; i++ {
		address[8-back.count+i] = back.list[i]
	}
	return address, true
}

// readWhole reads an address in which no group is left out.
func readWhole(text string) ([8]int64, bool) {
	all, ok := readGroups(text, true)
	if !ok || all.count != len(all.list) {
		return [8]int64{}, false
	}
	return all.list, true
}

// cutGap cuts at the first two colons that stand together, if there are such.
func cutGap(text string) (string, string, bool) {
	for i := 0; i+1 < len(text); i++ {
		if text[i] == ':' && text[i+1] == ':' {
			return text[:i], text[i+2:], true
		}
	}
	return "", "", false
}

// readGroups reads groups with colons between; the empty text has none. The
// last may be four numbers with dots if it is at the address's end.
func readGroups(text string, atEnd bool) (groups, bool) {
	if text == "" {
		return groups{}, true
	}
	g := groups{}
	parts := ascii.Split(text, ':')
	for i := 0; i < len(parts); i++ {
		part := parts[i]
		ok := false
		if atEnd && i == len(parts)-1 && ascii.Contains(part, '.') {
			ok = g.addDotted(part)
		} else {
			ok = g.addGroup(part)
		}
		if !ok {
			return groups{}, false
		}
	}
	return g, true
}

// addGroup reads one to four digits.
func (g *groups) addGroup(part string) bool {
	n, ok := ascii.Number(part, 16, 0xFFFF)
	if !ok || len(part) > 4 {
		return false
	}
	return g.add(n)
}

// addDotted reads four numbers with dots: two groups.
func (g *groups) addDotted(part string) bool {
	numbers := ascii.Split(part, '.')
	if len(numbers) != 4 {
		return false
	}
	value := int64(0)
	for i := 0; i < len(numbers); i++ {
		n, ok := readByte(numbers[i])
		if !ok {
			return false
		}
		value = value*256 + n
	}
	if !g.add(value / 65536) {
		return false
	}
	return g.add(value % 65536)
}

// readByte reads 0 to 255 without a nought ahead.
func readByte(text string) (int64, bool) {
	n, ok := ascii.Number(text, 10, 255)
	if !ok || n > 255 || len(text) > 1 && text[0] == '0' {
		return 0, false
	}
	return n, true
}

// writeIPv6 writes the groups, with the longest run of noughts as two colons.
func writeIPv6(address [8]int64) string {
	start, length := longestRun(address)
	text := ""
	i := 0
	for i < len(address) {
		if i == start {
			text += "::"
			i += length
		} else {
			if i > 0 && i != start+length {
				text += ":"
			}
			text += strconv.FormatInt(address[i], 16)
			i++
		}
	}
	return text
}

// longestRun tells where the first of the longest runs of two noughts or more
// begins, and how long it is; if there is none, it begins behind the groups.
func longestRun(address [8]int64) (int, int) {
	start := len(address)
	length := 1
	run := 0
	for i := 0; i < len(address); i++ {
		if address[i] == 0 {
			run++
		} else {
			run = 0
		}
		if run > length {
			start = i - run + 1
			length = run
		}
	}
	return start, length
}

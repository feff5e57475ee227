package hosts

import (
	"strconv"

	"urls/ascii"
)

// mostIPv4 is the greatest address as one number.
const mostIPv4 = 1<<32 - 1

// endsInNumber tells whether the parts must be an IPv4 address: digits alone
// count at the end even if they say no number, as 09.
func endsInNumber(parts []string) bool {
	if len(parts) == 0 {
		return false
	}
	last := parts[len(parts)-1]
	_, digits := ascii.Number(last, 10, mostIPv4)
	_, number := readNumber(last)
	return digits || number
}

// readNumber reads a part to the base 16, 8 or 10; a number above mostIPv4 is
// told as mostIPv4+1.
func readNumber(part string) (int64, bool) {
	if len(part) < 2 || part[0] != '0' {
		return ascii.Number(part, 10, mostIPv4)
	}
	if part[1] != 'x' && part[1] != 'X' {
		return ascii.Number(part[1:], 8, mostIPv4)
	}
	if len(part) == 2 {
		return 0, true
	}
	return ascii.Number(part[2:], 16, mostIPv4)
}

// readIPv4 reads one to four parts; the last one fills all that is left.
func readIPv4(parts []string) (int64, bool) {
	if len(parts) == 0 || len(parts) > 4 {
		return 0, false
	}
	value := int64(0)
	room := int64(mostIPv4 + 1)
	for i := 0; i < len(parts); i++ {
		n, ok := readNumber(parts[i])
		if !ok {
			return 0, false
		}
		last := i == len(parts)-1
		if n >= room || !last && n > 255 {
			return 0, false
		}
		if !last {
			room /= 256
			n *= room
		}
		value += n
	}
	return value, true
}

func writeIPv4(value int64) string {
	text := ""
	rest := value
	for i := 0; i < 4; i++ {
		if i > 0 {
			text = "." + text
		}
		text = strconv.FormatInt(rest%256, 10) + text
		rest /= 256
	}
	return text
}

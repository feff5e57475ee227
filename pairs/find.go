package pairs

import (
	"urls/api"
	"urls/points"
)

// divide answers the pairs of the name (and of the value, if valued), and the
// others, each in the order they had.
func divide(list []api.Pair, n string, v string, valued bool) ([]api.Pair, []api.Pair) {
	name := points.Clean(n)
	value := points.Clean(v)
	found := []api.Pair{}
	others := []api.Pair{}
	for i := 0; i < len(list); i++ {
		if list[i].Name == name && (!valued || list[i].Value == value) {
			found = append(found, list[i])
		} else {
			others = append(others, list[i])
		}
	}
	return found, others
}

// Has tells whether there is a pair of the name (and of the value, if valued).
func Has(list []api.Pair, n string, v string, valued bool) bool {
	found, _ := divide(list, n, v, valued)
	return len(found) > 0
}

// Value tells the value of the first pair of the name, if there is one.
func Value(list []api.Pair, n string) (string, bool) {
	found, _ := divide(list, n, "", false)
	if len(found) == 0 {
		return "", false
	}
	return found[0].Value, true
}

// Values answers all values of the name: a fresh list, nil if there are none.
func Values(list []api.Pair, n string) []string {
	found, _ := divide(list, n, "", false)
	if len(found) == 0 {
		return nil
	}
	values := make([]string, len(found))
	for i := 0; i < len(found); i++ {
		values[i] = found[i].Value
	}
	return values
}

package pairs

import (
	"urls/api"
	"urls/points"
)

// Append answers the list with one pair more: ErrFull, if it has no room.
func Append(list []api.Pair, n string, v string) ([]api.Pair, api.Errno) {
	if len(list) >= api.MaxPairs {
		return nil, api.ErrFull
	}
	more := duplicate(list)
	pair := api.Pair{}
	pair.Name = points.Clean(n)
	pair.Value = points.Clean(v)
	more = append(more, pair)
	return more, api.OK
}

// duplicate answers a list of its own with the same pairs.
func duplicate(list []api.Pair) []api.Pair {
	own := make([]api.Pair, len(list))
	for i := 0; i < len(list); i++ {
		own[i] = list[i]
	}
	return own
}

// Delete answers the list without the pairs of the name (and of the value, if
// valued).
func Delete(list []api.Pair, n string, v string, valued bool) []api.Pair {
	_, others := divide(list, n, v, valued)
	return others
}

// Set answers the list with one pair of the name: it stands where the first of
// them stood, or at the end, like Append's.
func Set(list []api.Pair, n string, v string) ([]api.Pair, api.Errno) {
	name := points.Clean(n)
	value := points.Clean(v)
	left := []api.Pair{}
	found := false
	for i := 0; i < len(list); i++ {
		if list[i].Name != name {
			left = append(left, list[i])
		} else if !found {
			left = append(left, api.Pair{Name: name, Value: value})
			found = true
		}
	}
	if !found {
		return Append(list, n, v)
	}
	return left, api.OK
}

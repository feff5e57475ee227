package urls

import (
	"urls/api"
	"urls/pairs"
)

// list answers the pairs. They are not kept beside the query: what changes
// them writes them there, and reading them off again loses nothing (P17).
func (x *URL) list() []api.Pair {
	if x == nil {
		return nil
	}
	return pairs.Read(x.parts.Query)
}

// putList makes the query that of the pairs, or none if there are none.
func (x *URL) putList(list []api.Pair) {
	if x == nil {
		return
	}
	if len(list) == 0 {
		x.parts = x.parts.WithoutQuery()
		return
	}
	x.parts.HasQuery = true
	x.parts.Query = pairs.Write(list)
}

// long tells whether a name or a value is longer than they may be.
func long(n string, v string) bool {
	return len(n) > api.MaxIn || len(v) > api.MaxIn
}

// Append adds a pair (P18).
func (x *URL) Append(n string, v string) api.Errno {
	if long(n, v) {
		return api.ErrLong
	}
	list := x.list()
	more, err := pairs.Append(list, n, v)
	if err != api.OK {
		return err
	}
	x.putList(more)
	return api.OK
}

// Delete takes pairs away (P18).
func (x *URL) Delete(n string, v string, valued bool) api.Errno {
	if long(n, v) {
		return api.ErrLong
	}
	list := x.list()
	left := pairs.Delete(list, n, v, valued)
	x.putList(left)
	return api.OK
}

// Set turns a pair (P18).
func (x *URL) Set(n string, v string) api.Errno {
	if long(n, v) {
		return api.ErrLong
	}
	list := x.list()
	turned, err := pairs.Set(list, n, v)
	if err != api.OK {
		return err
	}
	x.putList(turned)
	return api.OK
}

// Sort puts the pairs in order (P18).
func (x *URL) Sort() {
	list := x.list()
	sorted := pairs.Sort(list)
	x.putList(sorted)
}

// Value tells the first value of a name (P19).
func (x *URL) Value(n string) (string, bool) {
	if long(n, "") {
		return "", false
	}
	list := x.list()
	return pairs.Value(list, n)
}

// Values tells all values of a name (P19).
func (x *URL) Values(n string) []string {
	if long(n, "") {
		return nil
	}
	list := x.list()
	return pairs.Values(list, n)
}

// Has tells whether there is such a pair (P19).
func (x *URL) Has(n string, v string, valued bool) bool {
	if long(n, v) {
		return false
	}
	list := x.list()
	return pairs.Has(list, n, v, valued)
}

// Size tells how many pairs there are (P19).
func (x *URL) Size() int {
	list := x.list()
	return len(list)
}

// Text writes the pairs as a query (P19).
func (x *URL) Text() string {
	list := x.list()
	return pairs.Write(list)
}

// Pairs tells all pairs (P19).
func (x *URL) Pairs() []api.Pair {
	return x.list()
}

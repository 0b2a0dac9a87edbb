package maps

import (
	"slices"

	"firewall/api"
	"firewall/nums"
)

// table is which keys stand at which places; no key is empty.
type table interface {
	place(key string) int
	key(place int) string
	clone() table
}

// array has the key p at each place p.
type array struct{ max int }

// hash has a key at each place, or an empty one, where it has none.
type hash struct{ keys []string }

func newTable(m api.Map) table {
	if m.Kind == api.MapArray {
		return array{m.Max}
	}
	return &hash{make([]string, m.Max)}
}

// hashOf is a table that is a hash; false: it is none.
func hashOf(t table) (*hash, bool) {
	h, ok := t.(*hash)
	return h, ok
}

func (a array) place(key string) int {
	p := nums.Num(key)
	if len(key) != arrayKey || p >= uint64(a.max) {
		return none
	}
	return int(p)
}

func (a array) key(place int) string { return nums.Bytes(uint64(place), arrayKey) }

func (a array) clone() table { return a }

func (h *hash) place(key string) int {
	if key == "" {
		return none
	}
	return slices.Index(h.keys, key)
}

func (h *hash) key(place int) string { return h.keys[place] }

func (h *hash) clone() table { return &hash{slices.Clone(h.keys)} }

// take gives the first place that has no key to one.
func (h *hash) take(key string) int {
	p := slices.Index(h.keys, "")
	if p >= 0 {
		h.keys[p] = key
	}
	return p
}

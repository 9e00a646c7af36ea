// Package table makes the table of a pool, and tells whose a key is by it.
package table

import (
	"spread/api"
	"spread/pool"
	"spread/siphash"
)

// Entry is a slot or a point of a table: whose it is, as a place in the pool, and where the point lies (of slots 0).
type Entry struct {
	Point uint64
	Owner int
}

// Table is a pool, and the table's entries in their order.
type Table struct {
	Config  api.Config
	Pool    []api.Backend
	Entries []Entry
}

// Make makes the table of a pool (P5).
func Make(c api.Config, backends []api.Backend) Table {
	t := Table{Config: c}
	t.Pool = append([]api.Backend{}, backends...)
	if pool.Total(backends) < 1 {
		return t
	}
	switch c.Alg {
	case api.Maglev:
		t.Entries = maglev(c, backends)
	case api.Ring:
		t.Entries = points(c.Key, 'r', each(c), backends)
	case api.Rendezvous:
		t.Entries = rendezvous(c, backends)
	case api.Probes:
		t.Entries = points(c.Key, 'm', each(c), backends)
	}
	return t
}

// Names tells the names of the entries' owners, as a list that is the caller's.
func (t *Table) Names() []string {
	if len(t.Entries) == 0 {
		return nil
	}
	names := make([]string, 0, len(t.Entries))
	for _, e := range t.Entries {
		names = append(names, t.name(e.Owner))
	}
	return names
}

// Owner tells whose a key is (P7).
func (t *Table) Owner(key string) (string, api.Errno) {
	place := t.find(key)
	if place < 0 || place >= len(t.Entries) {
		return "", api.ErrNoBackend
	}
	return t.name(t.Entries[place].Owner), api.OK
}

// find tells the place of the entry that a key comes to; without entries, one that lies outside.
func (t *Table) find(key string) int {
	if t.Config.Alg == api.Probes {
		return probed(t.Config, t.Entries, key)
	}
	h := siphash.Hash(t.Config.Key, 'k', nil, key)
	if t.Config.Alg == api.Ring {
		return next(t.Entries, h)
	}
	return rest(h, len(t.Entries))
}

func (t *Table) name(place int) string {
	if place < 0 || place >= len(t.Pool) {
		return ""
	}
	return t.Pool[place].ID
}

// rest tells h modulo m; 0 where m is no modulus, so that no caller can divide by nought.
func rest(h uint64, m int) int {
	if m < 1 {
		return 0
	}
	return int(h % uint64(m))
}

// Package table makes the table of a pool, and tells whose a key is by it.
package table

import (
	"spread/api"
	"spread/pool"
	"spread/siphash"
)

// Table is a pool, and the owners of the table's entries as places in that pool.
type Table struct {
	Config api.Config
	Pool   []api.Backend
	Owners []int
}

// Make makes the table of a pool (P5).
func Make(c api.Config, backends []api.Backend) Table {
	t := Table{Config: c}
	t.Pool = append([]api.Backend{}, backends...)
	if pool.Total(backends) < 1 {
		return t
	}
	switch c.Alg {
	case api.Maglev:
		t.Owners = maglev(c, backends)
	case api.Rendezvous:
		t.Owners = rendezvous(c, backends)
	}
	return t
}

// Names tells the names of the entries' owners, as a list that is the caller's.
func (t *Table) Names() []string {
	if len(t.Owners) == 0 {
		return nil
	}
	names := make([]string, 0, len(t.Owners))
	for _, place := range t.Owners {
		names = append(names, t.name(place))
	}
	return names
}

// Owner tells whose a key is (P7).
func (t *Table) Owner(key string) (string, api.Errno) {
	if len(t.Owners) == 0 {
		return "", api.ErrNoBackend
	}
	h := siphash.Hash(t.Config.Key, 'k', nil, key)
	slot := rest(h, len(t.Owners))
	return t.name(t.Owners[slot]), api.OK
}

func (t *Table) name(place int) string {
	if place < 0 || place >= len(t.Pool) {
		return ""
	}
	return t.Pool[place].ID
}

// rest tells h modulo m; 0 where m is no modulus, so that no caller can divide by nought.
func rest(h uint64, m int) int {
	if m < 1 {
		return 0
	}
	return int(h % uint64(m))
}

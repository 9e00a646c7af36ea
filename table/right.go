package table

import (
	"spread/api"
	"spread/pool"
)

// HasPoints tells whether the entries of an algorithm are points, not slots.
func HasPoints(alg int) bool {
	return alg == api.Ring || alg == api.Probes
}

// count tells how many entries the table of a pool has (P5).
func count(c api.Config, backends []api.Backend) int {
	total := pool.Total(backends)
	if total < 1 {
		return 0
	}
	if HasPoints(c.Alg) {
		return each(c) * total
	}
	return c.Slots
}

// each tells how many points a unit of weight has.
func each(c api.Config) int {
	if c.Alg == api.Ring {
		return c.Points
	}
	return 1
}

// Right tells whether the entries could be a table of the pool, as an image that reads right has them (P8).
func (t *Table) Right() bool {
	if len(t.Entries) != count(t.Config, t.Pool) {
		return false
	}
	for _, e := range t.Entries {
		if !t.serves(e.Owner) {
			return false
		}
	}
	if !HasPoints(t.Config.Alg) {
		return true
	}
	return rises(t.Entries) && t.allOwnTheirs()
}

// serves tells whether a place is one of the pool whose backend has weight.
func (t *Table) serves(place int) bool {
	return place >= 0 && place < len(t.Pool) && t.Pool[place].Weight > 0
}

// rises tells whether points do not fall, and of equal ones the places do not.
func rises(entries []Entry) bool {
	for i := 1; i < len(entries); i++ {
		a := entries[i-1]
		b := entries[i]
		if a.Point > b.Point || a.Point == b.Point && a.Owner > b.Owner {
			return false
		}
	}
	return true
}

// allOwnTheirs tells whether each backend owns as many points as its weight gives it.
func (t *Table) allOwnTheirs() bool {
	for place, b := range t.Pool {
		owned := 0
		for _, e := range t.Entries {
			if e.Owner == place {
				owned++
			}
		}
		if owned != each(t.Config)*b.Weight {
			return false
		}
	}
	return true
}

// EntriesIn tells the entries with their owners' places in another pool; -1 where it has no backend of that name.
func (t *Table) EntriesIn(backends []api.Backend) []Entry {
	list := make([]Entry, 0, len(t.Entries))
	for _, e := range t.Entries {
		name := t.name(e.Owner)
		e.Owner = pool.Place(backends, name)
		list = append(list, e)
	}
	return list
}

package table

import (
	"spread/api"
	"spread/siphash"
)

// points lays so many points for each unit of weight, in the order of the entries.
func points(key string, letter byte, each int, backends []api.Backend) []Entry {
	var entries []Entry
	for place, b := range backends {
		for k := 0; k < each*b.Weight; k++ {
			h := siphash.Hash(key, letter, []int{k}, b.ID)
			entries = append(entries, Entry{Point: h, Owner: place})
		}
	}
	return rising(entries)
}

// rising tells the entries by their points. It moves no entry past an equal one, so that those that come by names stay so.
func rising(entries []Entry) []Entry {
	list := append([]Entry{}, entries...)
	for n := range list {
		e := list[n]
		i := n
		for ; i > 0 && list[i-1].Point > e.Point; i-- {
			list[i] = list[i-1]
		}
		list[i] = e
	}
	return list
}

// next tells the place of the first point that is not below h, going round to the first of all.
func next(entries []Entry, h uint64) int {
	for i, e := range entries {
		if e.Point >= h {
			return i
		}
	}
	return 0
}

// probed tells the place of the point that is nearest behind one of a key's probes. Only a nearer one wins, so that the first probe of equal ones stays.
func probed(c api.Config, entries []Entry, key string) int {
	best := 0
	var least uint64
	for i := 0; i < c.Probes; i++ {
		h := siphash.Hash(c.Key, 'p', []int{i}, key)
		place := next(entries, h)
		if place >= len(entries) {
			break
		}
		distance := entries[place].Point - h
		if i == 0 || distance < least {
			best = place
			least = distance
		}
	}
	return best
}

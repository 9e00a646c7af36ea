package table

import (
	"spread/api"
	"spread/siphash"
)

func rendezvous(c api.Config, backends []api.Backend) []Entry {
	var slots []Entry
	for s := 0; s < c.Slots; s++ {
		slots = append(slots, Entry{Owner: winner(c.Key, s, backends)})
	}
	return slots
}

// winner tells the place of the backend with a slot's greatest hash. It goes by names and lets only a greater hash win, so that the first of equal ones stays.
func winner(key string, slot int, backends []api.Backend) int {
	best := -1
	var most uint64
	for i, b := range backends {
		for k := 0; k < b.Weight; k++ {
			h := siphash.Hash(key, 'h', []int{slot, k}, b.ID)
			if best < 0 || h > most {
				best = i
				most = h
			}
		}
	}
	return best
}

package table

import (
	"spread/api"
	"spread/pool"
	"spread/siphash"
)

// way is the order in which a backend looks for free slots.
type way struct {
	offset, skip int
}

func maglev(c api.Config, backends []api.Backend) []Entry {
	var slots []Entry
	for s := 0; s < c.Slots; s++ {
		slots = append(slots, Entry{Owner: -1})
	}
	ways := waysOf(c, backends)
	shares := sharesOf(c.Slots, backends)
	// Who has a turn in a round has had one in every round before it: the round's number tells its turns so far.
	for round := 0; round < c.Slots; round++ {
		for i, share := range shares {
			if round >= share {
				continue
			}
			slot := firstFree(slots, ways[i])
			if slot >= 0 {
				slots[slot].Owner = i
			}
		}
	}
	return slots
}

func waysOf(c api.Config, backends []api.Backend) []way {
	ways := make([]way, 0, len(backends))
	for _, b := range backends {
		o := siphash.Hash(c.Key, 'o', nil, b.ID)
		s := siphash.Hash(c.Key, 's', nil, b.ID)
		ways = append(ways, way{offset: rest(o, c.Slots), skip: rest(s, c.Slots-1) + 1})
	}
	return ways
}

// firstFree tells the first free slot on a way; -1: there is none.
func firstFree(slots []Entry, w way) int {
	for i := range slots {
		slot := (w.offset + i*w.skip) % len(slots)
		if slots[slot].Owner < 0 {
			return slot
		}
	}
	return -1
}

// sharesOf tells how many slots each backend gets.
func sharesOf(slots int, backends []api.Backend) []int {
	total := pool.Total(backends)
	if total < 1 {
		return nil
	}
	shares := make([]int, 0, len(backends))
	remainders := make([]int, 0, len(backends))
	left := slots
	for _, b := range backends {
		share := slots * b.Weight / total
		shares = append(shares, share)
		remainders = append(remainders, slots*b.Weight%total)
		left -= share
	}
	for ; left > 0; left-- {
		i := greatest(remainders)
		if i < 0 {
			break
		}
		shares[i]++
		remainders[i] = -1
	}
	return shares
}

// greatest tells the place of the greatest number, of equal ones the first; -1: all are below 0.
func greatest(numbers []int) int {
	best := -1
	most := -1
	for i, n := range numbers {
		if n > most {
			best = i
			most = n
		}
	}
	return best
}

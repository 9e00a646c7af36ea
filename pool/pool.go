// Package pool works on lists of backends that are kept by names, rising. Every list it answers is a new one.
package pool

import (
	"spread/api"
	"spread/rules"
)

// Right tells whether a list is a pool: no more backends than may be, of right names and weights, the names rising.
func Right(backends []api.Backend) bool {
	if len(backends) > api.MaxPool {
		return false
	}
	for i, b := range backends {
		if !rules.Name(b.ID) || !rules.Weight(b.Weight) {
			return false
		}
		if i > 0 && backends[i-1].ID >= b.ID {
			return false
		}
	}
	return true
}

// Place tells where in the pool a name stands; -1: nowhere.
func Place(backends []api.Backend, id string) int {
	for i, b := range backends {
		if b.ID == id {
			return i
		}
	}
	return -1
}

// Total tells the sum of all weights.
func Total(backends []api.Backend) int {
	sum := 0
	for _, b := range backends {
		sum += b.Weight
	}
	return sum
}

// With tells the pool with one backend more, whose name is new.
func With(backends []api.Backend, more api.Backend) []api.Backend {
	list := make([]api.Backend, 0, len(backends)+1)
	laid := false
	for _, b := range backends {
		if !laid && more.ID < b.ID {
			list = append(list, more)
			laid = true
		}
		list = append(list, b)
	}
	if !laid {
		list = append(list, more)
	}
	return list
}

// Without tells the pool without the backend at a place.
func Without(backends []api.Backend, place int) []api.Backend {
	list := make([]api.Backend, 0, len(backends))
	for i, b := range backends {
		if i != place {
			list = append(list, b)
		}
	}
	return list
}

// Weighed tells the pool with another weight of the backend at a place.
func Weighed(backends []api.Backend, place int, w int) []api.Backend {
	list := make([]api.Backend, 0, len(backends))
	for i, b := range backends {
		if i == place {
			b.Weight = w
		}
		list = append(list, b)
	}
	return list
}

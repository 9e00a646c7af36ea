package service_test

import (
	"encoding/binary"
	"math/bits"
	"sort"

	"spread/api"
)

// The oracle makes tables anew from the document's words, by other means than the program: what both agree on over many pools is hardly an error of both.

func oracleSip(key string, text string) uint64 {
	k, l := binary.LittleEndian.Uint64([]byte(key[:8])), binary.LittleEndian.Uint64([]byte(key[8:]))
	a, b, c, d := k^0x736f6d6570736575, l^0x646f72616e646f6d, k^0x6c7967656e657261, l^0x7465646279746573
	rounds := func(n int) {
		for range n {
			a += b
			b = bits.RotateLeft64(b, 13) ^ a
			a = bits.RotateLeft64(a, 32)
			c += d
			d = bits.RotateLeft64(d, 16) ^ c
			a += d
			d = bits.RotateLeft64(d, 21) ^ a
			c += b
			b = bits.RotateLeft64(b, 17) ^ c
			c = bits.RotateLeft64(c, 32)
		}
	}
	padded := []byte(text)
	for len(padded)%8 != 7 {
		padded = append(padded, 0)
	}
	padded = append(padded, byte(len(text)%256))
	for ; len(padded) > 0; padded = padded[8:] {
		m := binary.LittleEndian.Uint64(padded)
		d ^= m
		rounds(2)
		a ^= m
	}
	c ^= 255
	rounds(4)
	return a ^ b ^ c ^ d
}

func oracleHash(key string, letter string, numbers []int, text string) uint64 {
	for _, n := range numbers {
		letter += string([]byte{byte(n / 256), byte(n % 256)})
	}
	return oracleSip(key, letter+text)
}

func oracleSlots(c api.Config, weights map[string]int) []string {
	var names []string
	total := 0
	for id, w := range weights {
		names = append(names, id)
		total += w
	}
	sort.Strings(names)
	if total == 0 {
		return nil
	}
	switch c.Alg {
	case api.Maglev:
		return oracleMaglev(c, names, weights, total)
	case api.Rendezvous:
		return oracleRendezvous(c, names, weights)
	}
	var slots []string
	for _, p := range oraclePoints(c, weights) {
		slots = append(slots, p.id)
	}
	return slots
}

func oracleMaglev(c api.Config, names []string, weights map[string]int, total int) []string {
	left := c.Slots
	due := map[string]int{}
	for _, id := range names {
		due[id] = c.Slots * weights[id] / total
		left -= due[id]
	}
	byRemainder := append([]string{}, names...)
	sort.SliceStable(byRemainder, func(i, j int) bool {
		return c.Slots*weights[byRemainder[i]]%total > c.Slots*weights[byRemainder[j]]%total
	})
	for _, id := range byRemainder[:left] {
		due[id]++
	}
	at := map[string]uint64{}
	skip := map[string]uint64{}
	m := uint64(c.Slots)
	for _, id := range names {
		at[id] = oracleHash(c.Key, "o", nil, id) % m
		skip[id] = oracleHash(c.Key, "s", nil, id)%(m-1) + 1
	}
	slots := make([]string, c.Slots)
	for taken := 0; taken < c.Slots; {
		for _, id := range names {
			if due[id] == 0 {
				continue
			}
			for slots[at[id]] != "" {
				at[id] = (at[id] + skip[id]) % m
			}
			slots[at[id]] = id
			due[id]--
			taken++
		}
	}
	return slots
}

func oracleRendezvous(c api.Config, names []string, weights map[string]int) []string {
	type bid struct {
		hash uint64
		id   string
	}
	var slots []string
	for s := range c.Slots {
		var bids []bid
		for _, id := range names {
			for k := range weights[id] {
				bids = append(bids, bid{oracleHash(c.Key, "h", []int{s, k}, id), id})
			}
		}
		sort.SliceStable(bids, func(i, j int) bool { return bids[i].hash > bids[j].hash })
		slots = append(slots, bids[0].id)
	}
	return slots
}

type oraclePoint struct {
	point uint64
	id    string
}

func oraclePoints(c api.Config, weights map[string]int) []oraclePoint {
	letter, each := "r", c.Points
	if c.Alg == api.Probes {
		letter, each = "m", 1
	}
	var l []oraclePoint
	for id, w := range weights {
		for k := range each * w {
			l = append(l, oraclePoint{oracleHash(c.Key, letter, []int{k}, id), id})
		}
	}
	sort.Slice(l, func(i, j int) bool {
		if l[i].point != l[j].point {
			return l[i].point < l[j].point
		}
		return l[i].id < l[j].id
	})
	return l
}

// oracleOwner asks nobody for an order of points: the first one that is not below a hash, going round, is the one with the least distance.
func oracleOwner(c api.Config, slots []string, points []oraclePoint, key string) string {
	var hashes []uint64
	switch c.Alg {
	case api.Maglev, api.Rendezvous:
		return slots[oracleHash(c.Key, "k", nil, key)%uint64(c.Slots)]
	case api.Ring:
		hashes = append(hashes, oracleHash(c.Key, "k", nil, key))
	case api.Probes:
		for i := range c.Probes {
			hashes = append(hashes, oracleHash(c.Key, "p", []int{i}, key))
		}
	}
	owner, least := "", uint64(0)
	for _, h := range hashes {
		for _, p := range points {
			if owner == "" || p.point-h < least {
				owner, least = p.id, p.point-h
			}
		}
	}
	return owner
}

package service_test

import (
	"encoding/binary"
	"fmt"
	"hash/crc32"
	"math/big"
	"sort"
	"strings"

	"spread/api"
)

// A picture is an image field by field, right or wrong: the tests lay bytes by it, by other means than the program.
type picture struct {
	begin    string
	format   int
	c        api.Config
	gen      int
	backends []api.Backend
	count    int // of entries, as the image says
	list     []laidEntry
	behind   string
}

type laidEntry struct {
	point uint64
	place int
}

func hasPoints(alg int) bool { return alg == api.Ring || alg == api.Probes }

func sealed(text string) string {
	return text + string(binary.LittleEndian.AppendUint32(nil, crc32.ChecksumIEEE([]byte(text))))
}

// high is a number as bytes, the high one first.
func high(n int, bytes int) string {
	return string(binary.BigEndian.AppendUint64(nil, uint64(n))[8-bytes:])
}

func (p picture) in(format int) picture {
	p.format = format
	return p
}

func (p picture) body() string {
	s := p.begin + high(p.format, 1) + high(p.c.Alg, 1) + high(p.gen, 4) + high(p.c.Slots, 2) + high(p.c.Points, 1) + high(p.c.Probes, 1) + p.c.Key
	s += laidBackends(p.backends) + high(p.count, 2)
	if p.format == 2 {
		return s + packed(laidBits(p.list, hasPoints(p.c.Alg), len(p.backends))) + p.behind
	}
	return s + laidEntries(p.list, hasPoints(p.c.Alg)) + p.behind
}

func (p picture) image() string { return sealed(p.body()) }

func laidBackends(backends []api.Backend) string {
	s := high(len(backends), 1)
	for _, b := range backends {
		s += high(len(b.ID), 1) + b.ID + high(b.Weight, 1)
	}
	return s
}

func laidEntries(list []laidEntry, points bool) string {
	s := ""
	for _, e := range list {
		if points {
			s += high(int(e.point), 8) + high(e.place, 1)
		} else {
			s += high(e.place, 2)
		}
	}
	return s
}

// placeWidth is what the document says of 1 to 16 backends, and none.
func placeWidth(backends int) int {
	return []int{1, 1, 1, 2, 2, 3, 3, 3, 3, 4, 4, 4, 4, 4, 4, 4, 4}[backends]
}

func laidBits(list []laidEntry, points bool, backends int) string {
	s := ""
	for _, e := range list {
		if points {
			s += fmt.Sprintf("%064b", e.point)
		}
		s += fmt.Sprintf("%0*b", placeWidth(backends), e.place)
	}
	return s
}

// packed is a text of 0 and 1 as bytes.
func packed(digits string) string {
	digits += strings.Repeat("0", (8-len(digits)%8)%8)
	if digits == "" {
		return ""
	}
	n, _ := new(big.Int).SetString(digits, 2)
	return string(n.FillBytes(make([]byte, len(digits)/8)))
}

// drawn is the picture, in format 1, of the table of a pool, as the oracle makes it.
func drawn(c api.Config, gen int, backends ...api.Backend) picture {
	p := picture{begin: "CH", format: 1, c: c, gen: gen}
	p.backends = append(p.backends, backends...)
	sort.Slice(p.backends, func(i, j int) bool { return p.backends[i].ID < p.backends[j].ID })
	weights := map[string]int{}
	places := map[string]int{}
	for i, b := range p.backends {
		weights[b.ID] = b.Weight
		places[b.ID] = i
	}
	if hasPoints(c.Alg) {
		for _, o := range oraclePoints(c, weights) {
			p.list = append(p.list, laidEntry{o.point, places[o.id]})
		}
	} else {
		for _, id := range oracleSlots(c, weights) {
			p.list = append(p.list, laidEntry{0, places[id]})
		}
	}
	p.count = len(p.list)
	return p
}

// copied shares no list with the picture that it was made of.
func (p picture) copied() picture {
	p.backends = append([]api.Backend{}, p.backends...)
	p.list = append([]laidEntry{}, p.list...)
	return p
}

// owned is the picture with other owners, by places, at its points.
func (p picture) owned(places ...int) picture {
	p = p.copied()
	for len(p.list) < len(places) {
		p.list = append(p.list, laidEntry{})
	}
	p.list = p.list[:len(places)]
	for i, place := range places {
		p.list[i].place = place
	}
	p.count = len(places)
	return p
}

// pointedAt is the picture with other points, beginning at the first.
func (p picture) pointedAt(points ...uint64) picture {
	p = p.copied()
	for i, x := range points {
		p.list[i].point = x
	}
	return p
}

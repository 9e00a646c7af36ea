package service_test

import (
	"fmt"
	"math/big"
	"sort"
	"strings"

	"spread/api"
)

// scan reads bytes from the front; what is not there makes it bad.
type scan struct {
	text string
	bad  bool
}

func (s *scan) bytes(n int) string {
	if n > len(s.text) {
		s.bad = true
		s.text = ""
		return strings.Repeat("\x00", n)
	}
	head := s.text[:n]
	s.text = s.text[n:]
	return head
}

func (s *scan) number(n int) uint64 {
	v := uint64(0)
	for _, b := range []byte(s.bytes(n)) {
		v = v*256 + uint64(b)
	}
	return v
}

func (s *scan) int(n int) int { return int(s.number(n)) }

func (s *scan) backends() []api.Backend {
	var l []api.Backend
	for range s.int(1) {
		id := s.bytes(s.int(1))
		l = append(l, api.Backend{ID: id, Weight: s.int(1)})
	}
	return l
}

func rightlySealed(text string) bool {
	return len(text) > 4 && sealed(text[:len(text)-4]) == text
}

func rightBackends(l []api.Backend) bool {
	alike := map[string]bool{}
	for _, b := range l {
		if b.ID == "" || len(b.ID) > 8 || b.Weight < 0 || b.Weight > 6 || alike[b.ID] {
			return false
		}
		alike[b.ID] = true
	}
	return len(l) <= 8 && sort.SliceIsSorted(l, func(i, j int) bool { return l[i].ID < l[j].ID })
}

func rightConfig(c api.Config) bool {
	prime := big.NewInt(int64(c.Slots)).ProbablyPrime(0)
	return 1 <= c.Alg && c.Alg <= 4 && 2 < c.Slots && c.Slots <= 211 && prime && 1 <= c.Points && c.Points <= 3 && 1 <= c.Probes && c.Probes <= 5
}

// rightEntries tells whether the entries may stand in a right image.
func (p picture) rightEntries() bool {
	each := map[int]int{api.Ring: p.c.Points, api.Probes: 1}[p.c.Alg]
	due := map[int]int{}
	total := 0
	for i, b := range p.backends {
		if b.Weight > 0 {
			due[i] = each * b.Weight
			total += b.Weight
		}
	}
	want := each * total
	if each == 0 && total > 0 {
		want = p.c.Slots
	}
	if p.count != want || len(p.list) != want {
		return false
	}
	for _, e := range p.list {
		if _, there := due[e.place]; !there {
			return false
		}
		due[e.place]--
	}
	if each == 0 {
		return true
	}
	for _, left := range due {
		if left != 0 {
			return false
		}
	}
	return sort.SliceIsSorted(p.list, func(i, j int) bool {
		a, b := p.list[i], p.list[j]
		return a.point < b.point || a.point == b.point && a.place < b.place
	})
}

// read is the document's reading of an image.
func read(image string) (picture, bool) {
	if !rightlySealed(image) {
		return picture{}, false
	}
	s := scan{text: image[:len(image)-4]}
	p := picture{begin: s.bytes(2), format: s.int(1)}
	p.c.Alg = s.int(1)
	p.gen = s.int(4)
	p.c.Slots, p.c.Points, p.c.Probes = s.int(2), s.int(1), s.int(1)
	p.c.Key = s.bytes(16)
	p.backends = s.backends()
	p.count = s.int(2)
	if s.bad || p.begin != "CH" || p.format < 1 || p.format > 2 || !rightConfig(p.c) || p.gen < 1 || p.gen > 1<<30 || !rightBackends(p.backends) {
		return picture{}, false
	}
	if p.format == 1 {
		p.list = s.entries(p.count, hasPoints(p.c.Alg))
	} else {
		p.list = s.bits(p.count, hasPoints(p.c.Alg), len(p.backends))
	}
	if s.bad || s.text != "" || !p.rightEntries() {
		return picture{}, false
	}
	return p, true
}

func (s *scan) entries(count int, points bool) []laidEntry {
	var l []laidEntry
	for i := 0; i < count && !s.bad; i++ {
		var e laidEntry
		if points {
			e.point = s.number(8)
			e.place = s.int(1)
		} else {
			e.place = s.int(2)
		}
		l = append(l, e)
	}
	return l
}

func (s *scan) bits(count int, points bool, backends int) []laidEntry {
	var all strings.Builder
	for _, b := range []byte(s.text) {
		fmt.Fprintf(&all, "%08b", b)
	}
	digits := all.String()
	take := func(n int) uint64 {
		v := uint64(0)
		for ; n > 0; n-- {
			if digits == "" {
				s.bad = true
				return 0
			}
			v = v*2 + uint64(digits[0]-'0')
			digits = digits[1:]
		}
		return v
	}
	var l []laidEntry
	for i := 0; i < count && !s.bad; i++ {
		var e laidEntry
		if points {
			e.point = take(64)
		}
		e.place = int(take(placeWidth(backends)))
		l = append(l, e)
	}
	s.bad = s.bad || len(digits) > 7 || strings.Contains(digits, "1")
	s.text = ""
	return l
}

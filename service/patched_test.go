package service_test

import (
	"fmt"
	"hash/crc32"
	"slices"

	"spread/api"
)

// A laidPatch is a patch field by field, right or wrong.
type laidPatch struct {
	begin         string
	base          int
	sum           uint32
	gen           int
	backends      []api.Backend
	ahead, behind int
	count         int // of the entries between, as the patch says
	list          []laidEntry
	points        bool
	tail          string
}

func (p laidPatch) body() string {
	s := p.begin + high(p.base, 4) + high(int(p.sum), 4) + high(p.gen, 4) + laidBackends(p.backends)
	return s + high(p.ahead, 2) + high(p.behind, 2) + high(p.count, 2) + laidEntries(p.list, p.points) + p.tail
}

func (p laidPatch) patch() string { return sealed(p.body()) }

// sum is how a patch knows a picture.
func (p picture) sum() uint32 { return crc32.ChecksumIEEE([]byte(p.in(1).body())) }

// named are the entries with their owners' names.
func (p picture) named() []string {
	var l []string
	for _, e := range p.list {
		l = append(l, fmt.Sprint(e.point, " ", p.backends[e.place].ID))
	}
	return l
}

// between is the patch from one picture to another.
func between(a picture, b picture) laidPatch {
	p := laidPatch{begin: "CP", base: a.gen, sum: a.sum(), gen: b.gen, backends: b.backends, points: hasPoints(b.c.Alg)}
	from, to := a.named(), b.named()
	for len(from) > 0 && len(to) > 0 && from[0] == to[0] {
		from, to = from[1:], to[1:]
		p.ahead++
	}
	slices.Reverse(from)
	slices.Reverse(to)
	for len(from) > 0 && len(to) > 0 && from[0] == to[0] {
		from, to = from[1:], to[1:]
		p.behind++
	}
	p.list = b.list[p.ahead : p.ahead+len(to)]
	p.count = len(to)
	return p
}

// applied is the document's Apply.
func applied(patch string, image string) (string, api.Errno) {
	m, ok := read(image)
	if !ok || !rightlySealed(patch) {
		return "", api.ErrImage
	}
	s := scan{text: patch[:len(patch)-4]}
	p := laidPatch{begin: s.bytes(2), base: s.int(4), sum: uint32(s.number(4)), gen: s.int(4)}
	p.backends = s.backends()
	p.ahead, p.behind, p.count = s.int(2), s.int(2), s.int(2)
	p.list = s.entries(p.count, hasPoints(m.c.Alg))
	if s.bad || s.text != "" || p.begin != "CP" || !rightBackends(p.backends) {
		return "", api.ErrImage
	}
	if p.base != m.gen || p.sum != m.sum() {
		return "", api.ErrBase
	}
	if p.ahead+p.behind > len(m.list) {
		return "", api.ErrImage
	}
	n := picture{begin: "CH", format: 1, c: m.c, gen: p.gen, backends: p.backends}
	stay := append([]laidEntry{}, m.list...)
	for i, e := range stay {
		id := m.backends[e.place].ID
		stay[i].place = slices.IndexFunc(p.backends, func(b api.Backend) bool { return b.ID == id })
	}
	n.list = slices.Concat(stay[:p.ahead], p.list, stay[len(stay)-p.behind:])
	n.count = len(n.list)
	if n.gen < 1 || n.gen > 1<<30 || !n.rightEntries() {
		return "", api.ErrImage
	}
	return n.image(), api.OK
}

package service_test

import (
	"maps"
	"slices"
	"strings"
)

// The models are the document's words on dataplanes and on who serves them, by other means than the program.

// modelServe answers by the images, in formats 1 and 2, of the generation published; 0: none.
func modelServe(formats int, gen int, images [3]string, frame string) string {
	if !rightlySealed(frame) || frame[0] != 'Q' || len(frame) != 17 {
		return ""
	}
	s := scan{text: frame[1:]}
	q := question{s.int(4), s.int(1), s.int(4), s.int(1), s.int(2)}
	both := map[int]bool{}
	for bit := 1; bit <= 2; bit++ {
		both[bit] = q.formats&bit > 0 && formats&bit > 0
	}
	if !both[1] && !both[2] {
		return noFormat
	}
	if gen == 0 || gen == q.held {
		return noNews
	}
	format := 2
	if !both[2] || both[1] && q.coming == gen && q.format == 1 {
		format = 1
	}
	l := cutUp(images[format], 48)
	number := 0
	if q.coming == gen && q.missing < len(l) {
		number = q.missing
	}
	return piece{gen, format, len(l), number, l[number]}.frame()
}

type modelPlane struct {
	formats int
	held    picture // generation 0: nothing
	coming  piece   // the piece that began it; generation 0: nothing
	there   map[int]string
	told    bool
}

func (m *modelPlane) restart() { *m = modelPlane{formats: m.formats} }

func (m *modelPlane) question() question {
	q := question{held: m.held.gen, formats: m.formats}
	if m.coming.gen > 0 {
		q.coming, q.format = m.coming.gen, m.coming.format
		for m.there[q.missing] != "" {
			q.missing++
		}
	}
	return q
}

func (m *modelPlane) receive(frame string) {
	if !rightlySealed(frame) {
		return
	}
	text := frame[:len(frame)-4]
	if text == "A\x00" {
		m.told = false
	}
	if text == "A\x02" {
		m.told = true
	}
	if strings.HasPrefix(text, "A\x01") && 11 < len(text) && len(text) <= 11+48 {
		s := scan{text: text[2:]}
		m.take(piece{s.int(4), s.int(1), s.int(2), s.int(2), s.text})
	}
}

func (m *modelPlane) take(p piece) {
	if p.gen <= m.held.gen || p.gen < m.coming.gen || p.number >= p.pieces || p.format&m.formats == 0 {
		return
	}
	if p.gen > m.coming.gen {
		m.coming = p
		m.there = map[int]string{}
	}
	if p.format != m.coming.format || p.pieces != m.coming.pieces {
		return
	}
	m.told = false
	m.there[p.number] = p.bytes
	if len(m.there) < p.pieces {
		return
	}
	whole := ""
	for _, number := range slices.Sorted(maps.Keys(m.there)) {
		whole += m.there[number]
	}
	if image, ok := read(whole); ok && image.gen == p.gen && image.format == p.format {
		m.held = image
	}
	m.coming = piece{}
	m.there = nil
}

package service_test

import (
	"fmt"
	"testing"

	"spread/api"
	"spread/service"
)

// Frames are laid here field by field, right or wrong, by other means than the program.

type question struct {
	held, formats, coming, format, missing int
}

func (q question) body() string {
	return "Q" + high(q.held, 4) + high(q.formats, 1) + high(q.coming, 4) + high(q.format, 1) + high(q.missing, 2)
}

func (q question) frame() string { return sealed(q.body()) }

type piece struct {
	gen, format, pieces, number int
	bytes                       string
}

func (p piece) body() string {
	return "A\x01" + high(p.gen, 4) + high(p.format, 1) + high(p.pieces, 2) + high(p.number, 2) + p.bytes
}

func (p piece) frame() string { return sealed(p.body()) }

var (
	noNews   = sealed("A\x00")
	noFormat = sealed("A\x02")
)

// cutUp cuts a text into pieces of so many bytes, the last one what is left.
func cutUp(text string, size int) []string {
	var l []string
	for len(text) > size {
		l = append(l, text[:size])
		text = text[size:]
	}
	return append(l, text)
}

// pieces are the answers by which a picture's image comes.
func (p picture) pieces() []piece { return p.piecesOf(api.Chunk) }

func (p picture) piecesOf(size int) []piece {
	var l []piece
	all := cutUp(p.image(), size)
	for i, bytes := range all {
		l = append(l, piece{p.gen, p.format, len(all), i, bytes})
	}
	return l
}

// owner is whose a key is by a picture's table.
func (p picture) owner(key string) string {
	if len(p.list) == 0 {
		return `"" ErrNoBackend`
	}
	var slots []string
	var points []oraclePoint
	for _, e := range p.list {
		slots = append(slots, p.backends[e.place].ID)
		points = append(points, oraclePoint{e.point, p.backends[e.place].ID})
	}
	return fmt.Sprintf("%q OK", oracleOwner(p.c, slots, points, key))
}

// far is a dataplane, with the service that it joined.
type far struct {
	t *testing.T
	s *service.Service
	d int
}

func join(t *testing.T, s *service.Service, formats int) far {
	t.Helper()
	d, e := s.Join(formats)
	if e != api.OK {
		t.Fatalf("P10: Join(%d): %d, %v", formats, d, e)
	}
	return far{t, s, d}
}

// joined is the one dataplane of a service that publishes nothing.
func joined(t *testing.T, formats int) far {
	t.Helper()
	return join(t, start(t, config(api.Maglev, 7)), formats)
}

func (f far) takes(frames ...string) {
	f.t.Helper()
	for _, frame := range frames {
		expect(f.t, "P12: Receive", f.s.Receive(f.d, frame), api.OK)
	}
}

func (f far) takesPieces(pieces ...piece) {
	f.t.Helper()
	for _, p := range pieces {
		f.takes(p.frame())
	}
}

// fetches takes a whole table.
func (f far) fetches(p picture) {
	f.t.Helper()
	f.takesPieces(p.pieces()...)
}

// round asks, and takes what is answered.
func (f far) round() string {
	f.t.Helper()
	frame, e := f.s.Tick(f.d)
	expect(f.t, "P11: Tick", e, api.OK)
	a := f.s.Serve(frame)
	f.takes(a)
	return a
}

// catchesUp goes round until there is no news: no image has more pieces than the longest one.
func (f far) catchesUp() {
	f.t.Helper()
	for range 31 {
		if f.round() == noNews {
			return
		}
	}
	f.t.Errorf("P11: 31 rounds, and still news")
}

// stands wants a dataplane to ask so, and to have been told so: OK or ErrFormat.
func (f far) stands(what string, q question, told api.Errno) {
	f.t.Helper()
	if got := hexed(f.s.Tick(f.d)); got != hexed(q.frame(), api.OK) {
		f.t.Errorf("P11, P12: %s: Tick: got %s, want %s", what, got, hexed(q.frame(), api.OK))
	}
	if gen, e := f.s.Held(f.d); gen != q.held || e != told {
		f.t.Errorf("P12: %s: Held: got %d, %v, want %d, %v", what, gen, e, q.held, told)
	}
}

// looksUp wants keys to be those of a picture's table.
func (f far) looksUp(what string, p picture) {
	f.t.Helper()
	for _, key := range someKeys {
		id, e := f.s.Lookup(f.d, key)
		if got := fmt.Sprintf("%q %v", id, e); got != p.owner(key) {
			f.t.Errorf("P12: %s: Lookup(%.20q): got %s, want %s", what, key, got, p.owner(key))
		}
	}
}

func (f far) looksUpNothing(what string) {
	f.t.Helper()
	for _, key := range someKeys {
		if id, e := f.s.Lookup(f.d, key); id != "" || e != api.ErrNoTable {
			f.t.Errorf("P12: %s: Lookup(%.20q): %q, %v", what, key, id, e)
		}
	}
}

// toldBy is all that a dataplane tells.
func (f far) toldBy() string {
	gen, e := f.s.Held(f.d)
	s := hexed(f.s.Tick(f.d)) + fmt.Sprintf(" %d %v", gen, e)
	for _, key := range someKeys {
		id, e := f.s.Lookup(f.d, key)
		s += fmt.Sprintf(" %q %v", id, e)
	}
	return s
}

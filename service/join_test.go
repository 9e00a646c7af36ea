package service_test

import (
	"fmt"
	"math"
	"testing"

	"spread/api"
	"spread/service"
)

var farFormats = append([]int{0, 4, -2, -3, 255, 257, 258, 259, 1<<32 + 1, 1<<32 + 3, math.MinInt + 1}, anyNumbers...)

func expectJoin(t *testing.T, s *service.Service, formats int, number int, want api.Errno) {
	t.Helper()
	if d, e := s.Join(formats); d != number || e != want {
		t.Errorf("P10: Join(%d): got %d, %v, want %d, %v", formats, d, e, number, want)
	}
}

func refusedJoins(t *testing.T, s *service.Service) {
	t.Helper()
	for _, formats := range farFormats {
		if formats < 1 || formats > 3 {
			expectJoin(t, s, formats, -1, api.ErrConfig)
		}
	}
}

func TestJoin(t *testing.T) {
	for spoken := 1; spoken <= 3; spoken++ {
		c := config(api.Ring, 7)
		c.Formats = spoken
		s := start(t, c)
		for d, formats := range []int{2, 3, 1, 2} {
			refusedJoins(t, s)
			expectJoin(t, s, formats, d, api.OK)
			f := far{t, s, d}
			f.stands("a new one", question{formats: formats}, api.OK)
			f.looksUpNothing("a new one")
		}
		for formats := 1; formats <= 3; formats++ {
			expectJoin(t, s, formats, -1, api.ErrFull)
		}
		// The formats are looked at ahead of the room.
		refusedJoins(t, s)
		for d, formats := range []int{2, 3, 1, 2} {
			far{t, s, d}.stands("behind refused ones", question{formats: formats}, api.OK)
			expect(t, "P12: Restart", s.Restart(d), api.OK)
		}
		expectJoin(t, s, 3, -1, api.ErrFull)
		expectUnknown(t, "behind a refused one", s, api.MaxPlanes)
		if s.Gen() != 0 || s.Slots() != nil {
			t.Errorf("P10: Join published something: %d", s.Gen())
		}
	}
}

// A service that has published has new dataplanes that hold nothing all the same.
func TestJoinOfAPublishedService(t *testing.T) {
	s := pooled(t, config(api.Maglev, 7), backends("a b", 1, 2)...)
	want := tell(s)
	for d := range api.MaxPlanes {
		f := join(t, s, 1+d%3)
		f.stands("a new one", question{formats: 1 + d%3}, api.OK)
		f.looksUpNothing("a new one")
	}
	expectJoin(t, s, 1, -1, api.ErrFull)
	expectTold(t, "P10: what the service tells behind Join", tell(s), want)
}

// expectUnknown asks with a number of which there is no dataplane.
func expectUnknown(t *testing.T, what string, s *service.Service, d int) {
	t.Helper()
	if frame, e := s.Tick(d); frame != "" || e != api.ErrUnknown {
		t.Errorf("P10: %s: Tick(%d): %x, %v", what, d, frame, e)
	}
	whole := drawn(config(api.Maglev, 3), 1, backends("a", 1)...).pieces()[0].frame()
	for _, frame := range []string{"", "A", noNews, noFormat, whole} {
		if e := s.Receive(d, frame); e != api.ErrUnknown {
			t.Errorf("P10: %s: Receive(%d, %x): %v", what, d, frame, e)
		}
	}
	if e := s.Restart(d); e != api.ErrUnknown {
		t.Errorf("P10: %s: Restart(%d): %v", what, d, e)
	}
	if gen, e := s.Held(d); gen != 0 || e != api.ErrUnknown {
		t.Errorf("P10: %s: Held(%d): %d, %v", what, d, gen, e)
	}
	for _, key := range someKeys {
		if id, e := s.Lookup(d, key); id != "" || e != api.ErrUnknown {
			t.Errorf("P10: %s: Lookup(%d): %q, %v", what, d, id, e)
		}
	}
}

func TestNumbersOfNoDataplane(t *testing.T) {
	for _, pool := range [][]api.Backend{nil, backends("a b", 1, 2)} {
		s := pooled(t, config(api.Ring, 7), pool...)
		for there := 0; there <= api.MaxPlanes; there++ {
			for _, d := range append([]int{there, there + 1, 1<<32 + 0, 1<<32 - 1, math.MinInt + 1}, anyNumbers...) {
				if d < 0 || d >= there {
					expectUnknown(t, fmt.Sprint(there, " dataplanes"), s, d)
				}
			}
			for d := range there {
				far{t, s, d}.stands("behind wrong numbers", question{formats: 3}, api.OK)
			}
			if there < api.MaxPlanes {
				expectJoin(t, s, 3, there, api.OK)
			}
		}
	}
}

// Dataplanes know nothing of each other, nor of another service's.
func TestDataplanesAreApart(t *testing.T) {
	s, other := start(t, config(api.Maglev, 7)), start(t, config(api.Maglev, 7))
	a, b := join(t, s, 3), join(t, s, 1)
	expectUnknown(t, "a dataplane of another service", other, a.d)
	expectUnknown(t, "a dataplane of another service", other, b.d)
	c := join(t, other, 2)
	expectUnknown(t, "a dataplane of another service", other, b.d)

	p := plain(api.Ring)
	a.fetches(p)
	a.takes(noFormat)
	a.stands("fetched", question{held: 9, formats: 3}, api.ErrFormat)
	b.stands("beside", question{formats: 1}, api.OK)
	c.stands("of another service", question{formats: 2}, api.OK)
	b.takesPieces(p.pieces()[0])
	b.stands("one piece", question{formats: 1, coming: 9, format: 1, missing: 1}, api.OK)
	a.takes(noNews)
	a.stands("beside", question{held: 9, formats: 3}, api.OK)
	c.stands("of another service", question{formats: 2}, api.OK)
	expect(t, "P12: Restart", s.Restart(b.d), api.OK)
	a.looksUp("beside one that begins anew", p)
	b.looksUpNothing("anew")
	b.fetches(plain(api.Probes))
	expect(t, "P12: Restart", s.Restart(a.d), api.OK)
	a.looksUpNothing("anew")
	b.looksUp("beside one that begins anew", plain(api.Probes))
	c.looksUpNothing("of another service")
	if s.Gen() != 0 || other.Gen() != 0 {
		t.Error("P12: what dataplanes take is published")
	}
}

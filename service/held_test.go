package service_test

import (
	"fmt"
	"math"
	"testing"

	"spread/api"
)

func (f far) restarts() {
	f.t.Helper()
	expect(f.t, "P12: Restart", f.s.Restart(f.d), api.OK)
}

func TestRestart(t *testing.T) {
	for _, s := range standings(t) {
		for range 2 {
			s.f.restarts()
			s.f.stands(s.what+": anew", question{formats: 3}, api.OK)
			s.f.looksUpNothing(s.what + ": anew")
		}
		// Behind it an earlier generation is as good as a later one, and no piece is there.
		p := later(5)
		x := p.pieces()
		s.f.takesPieces(x[1])
		s.f.stands(s.what+": a piece", question{0, 3, 5, 1, 0}, api.OK)
		s.f.takesPieces(x...)
		s.f.stands(s.what+": fetched anew", question{held: 5, formats: 3}, api.OK)
		s.f.looksUp(s.what+": fetched anew", p)
		s.f.takes(noFormat)
		s.f.restarts()
		s.f.stands(s.what+": anew once more", question{formats: 3}, api.OK)
	}
	for formats := 1; formats <= 3; formats++ {
		f := joined(t, formats)
		f.restarts()
		f.stands("its formats stay", question{formats: formats}, api.OK)
		f.takesPieces(piece{1, 3 - formats, 2, 0, "x"})
		f.restarts()
		f.stands("its formats stay", question{formats: formats}, api.OK)
	}
}

// The service knows nothing of Restart, nor of what its dataplanes hold.
func TestServiceBesideItsDataplanes(t *testing.T) {
	c := config(api.Ring, 7)
	s := pooled(t, c, backends("a b", 1, 2)...)
	f := join(t, s, 3)
	want := tell(s)
	f.fetches(plain(api.Probes))
	f.takes(noFormat)
	expectTold(t, "P12: what the service tells of its own", tell(s), want)
	expectImage(t, "behind what its dataplane holds", s, drawn(c, 2, backends("a b", 1, 2)...))
	f.restarts()
	expectTold(t, "P12: what the service tells of its own", tell(s), want)
}

// Tables that nobody's service made: other owners, points, keys, configurations.
func TestTablesThatNobodyMade(t *testing.T) {
	var l []picture
	for _, alg := range []int{api.Maglev, api.Rendezvous} {
		p := plain(alg)
		l = append(l, p, p.owned(1, 1, 1, 1, 1, 1, 1), p.owned(3, 3, 3, 3, 2, 2, 1), p.owned(1, 2, 3, 1, 2, 3, 1))
	}
	ring := plain(api.Ring).owned(1, 1, 2, 2, 2, 2, 3, 3, 3, 3, 3, 3)
	probes := plain(api.Probes).owned(1, 2, 2, 3, 3, 3)
	same := make([]uint64, 12)
	l = append(l, ring, probes, ring.pointedAt(same...), probes.pointedAt(same[:6]...))
	for i := range same {
		same[i] = math.MaxUint64
	}
	l = append(l, ring.pointedAt(same...), probes.pointedAt(same[:6]...))
	for i := range same {
		same[i] = uint64(i) << 60
	}
	l = append(l, ring.pointedAt(same...), probes.pointedAt(same[:6]...))
	l = append(l, plain(api.Ring).owned(3, 3, 3, 1, 1, 3, 3, 3, 2, 2, 2, 2), plain(api.Probes).owned(3, 2, 1, 3, 2, 3))
	for _, c := range someConfigs {
		for _, alg := range algorithms {
			c.Alg = alg
			l = append(l, drawn(c, 9, eight...), drawn(c, 9, longest...))
		}
	}
	for i, p := range l {
		for format := 1; format <= 2; format++ {
			// The service's own configuration, Maglev of 7 slots, is not the table's.
			f := joined(t, 3)
			f.fetches(p.in(format))
			f.stands(fmt.Sprint("table ", i), question{held: 9, formats: 3}, api.OK)
			f.looksUp(fmt.Sprint("table ", i), p)
			for k := range 30 {
				key := fmt.Sprint("another", k)
				if id, e := f.s.Lookup(f.d, key); fmt.Sprintf("%q %v", id, e) != p.owner(key) {
					t.Errorf("P12: table %d: Lookup(%q): %q, %v, want %s", i, key, id, e, p.owner(key))
				}
			}
		}
	}
}

// A table that is held has its own key of the hash, slots, probes: each of them counts.
func TestConfigurationOfTheTableHeld(t *testing.T) {
	base := api.Config{Alg: api.Probes, Slots: 31, Points: 1, Probes: 3, Key: usualKey}
	seen := map[string]bool{}
	for _, change := range []func(c *api.Config){
		func(c *api.Config) {},
		func(c *api.Config) { c.Key = "fedcba9876543210" },
		func(c *api.Config) { c.Probes = 1 },
		func(c *api.Config) { c.Alg = api.Maglev },
		func(c *api.Config) { c.Alg = api.Maglev; c.Slots = 29 },
		func(c *api.Config) { c.Alg = api.Ring; c.Points = 3 },
		func(c *api.Config) { c.Alg = api.Rendezvous },
	} {
		c := base
		change(&c)
		f := joined(t, 2)
		p := drawn(c, 1, eight...).in(2)
		f.fetches(p)
		f.looksUp("a configuration", p)
		got := ""
		for k := range 40 {
			id, _ := f.s.Lookup(f.d, fmt.Sprint("key", k))
			got += id
		}
		if seen[got] {
			t.Errorf("P12: two configurations, one table: %+v", c)
		}
		seen[got] = true
	}
}

func TestTablesWithoutWeight(t *testing.T) {
	for _, alg := range algorithms {
		for _, pool := range [][]api.Backend{nil, backends("a", 0), backends("a b c d e f g h", 0, 0, 0, 0, 0, 0, 0, 0)} {
			for format := 1; format <= 2; format++ {
				f := joined(t, 3)
				p := drawn(config(alg, 13), 4, pool...).in(format)
				f.looksUpNothing("before")
				f.fetches(p)
				f.stands("nobody has weight", question{held: 4, formats: 3}, api.OK)
				f.looksUp("nobody has weight", p)
				if id, e := f.s.Lookup(f.d, "key"); id != "" || e != api.ErrNoBackend {
					t.Errorf("P12: nobody has weight: %q, %v", id, e)
				}
				f.takes(noFormat)
				f.looksUp("nobody has weight, and it has been told", p)
				f.fetches(later(5))
				f.looksUp("behind it", later(5))
				f.restarts()
				f.looksUpNothing("anew")
			}
		}
	}
}

// A dataplane by the service's own tables answers as the service does.
func TestLookupAsLocal(t *testing.T) {
	for _, alg := range algorithms {
		for formats := 1; formats <= 3; formats++ {
			c := api.Config{Alg: alg, Slots: 31, Points: 2, Probes: 3, Key: usualKey, Formats: formats}
			s := start(t, c)
			f := join(t, s, 3)
			f.round()
			f.looksUpNothing("nothing is published")
			for gen, step := range []func() api.Errno{
				func() api.Errno { return s.Add("b", 0) }, func() api.Errno { return s.Add("a", 3) }, func() api.Errno { return s.Set("b", 2) },
				func() api.Errno { return s.Add("c", 6) }, func() api.Errno { return s.Remove("a") }, func() api.Errno { return s.Set("c", 6) },
			} {
				expect(t, "a change", step(), api.OK)
				if held, e := f.s.Held(f.d); held != gen || e != api.OK {
					t.Errorf("P12: Held ahead of generation %d: %d, %v", gen+1, held, e)
				}
				f.catchesUp()
				f.stands("fetched", question{held: gen + 1, formats: 3}, api.OK)
				for k := range 50 {
					key := fmt.Sprint("key", k)
					id, e := s.Lookup(f.d, key)
					if want, we := s.Local(key); id != want || e != we {
						t.Errorf("P12: Lookup(%q): %q, %v, Local: %q, %v", key, id, e, want, we)
					}
				}
			}
		}
	}
}

// Lists that the service hands out are not what its dataplanes look into.
func TestSpoiltListsAndDataplanes(t *testing.T) {
	for _, alg := range algorithms {
		c := config(alg, 13)
		s := pooled(t, c, backends("a b", 1, 2)...)
		f := join(t, s, 3)
		spoil(s.Slots())
		f.round()
		spoil(s.Slots())
		f.catchesUp()
		spoil(s.Slots())
		f.looksUp("behind a spoilt list", drawn(c, 2, backends("a b", 1, 2)...))
	}
}

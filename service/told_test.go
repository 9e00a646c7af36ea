package service_test

import (
	"strings"
	"testing"

	"spread/api"
)

func TestDropChangesNothing(t *testing.T) {
	for _, alg := range algorithms {
		c := api.Config{Alg: alg, Slots: 13, Points: 2, Probes: 3, Key: usualKey, Formats: 3}
		s, twin := start(t, c), start(t, c)
		s.Drop()
		expectTold(t, "P6: Drop ahead of the first change", tell(s), tell(twin))
		if s.Gen() != 0 || s.Slots() != nil {
			t.Errorf("P6: Drop published something: %d, %q", s.Gen(), s.Slots())
		}
		for _, b := range backends("c a d b e", 3, 0, 6, 1, 2) {
			expect(t, "Add", s.Add(b.ID, b.Weight), twin.Add(b.ID, b.Weight))
			expectTold(t, "P6: a change behind Drop", tell(s), tell(twin))
			s.Drop()
			s.Drop()
			expectTold(t, "P6: Drop", tell(s), tell(twin))
		}
		expect(t, "Set", s.Set("d", 1), twin.Set("d", 1))
		s.Drop()
		expect(t, "Remove", s.Remove("c"), twin.Remove("c"))
		expect(t, "Remove", s.Remove("c"), twin.Remove("c"))
		s.Drop()
		expectTold(t, "P6: Drop at last", tell(s), tell(twin))
	}
}

// Every way to a pool, with Drop at any place of it, comes to one table.
func TestDropOnTheWay(t *testing.T) {
	for _, alg := range algorithms {
		c := api.Config{Alg: alg, Slots: 31, Points: 3, Probes: 5, Key: usualKey, Formats: 3}
		want := tell(pooled(t, c, backends("a b c d e f", 2, 5, 0, 1, 6, 3)...))
		for place := range 7 {
			s := start(t, c)
			for i, b := range backends("f c a e b d", 3, 0, 2, 6, 5, 1) {
				if i == place {
					s.Drop()
				}
				expect(t, "Add", s.Add(b.ID, b.Weight), api.OK)
			}
			expectTold(t, "P6: Drop on the way", tell(s), want)
			s.Drop()
			expectTold(t, "P6: Drop at the end", tell(s), want)
			expect(t, "Remove", s.Remove("e"), api.OK)
			s.Drop()
			expect(t, "Add", s.Add("e", 6), api.OK)
			want.Gen += 2
			expectTold(t, "P6: Drop between going and coming", tell(s), want)
			want.Gen -= 2
		}
	}
}

func TestAskingChangesNothing(t *testing.T) {
	s := pooled(t, config(api.Maglev, 13), backends("a b", 1, 2)...)
	want := tell(s)
	for range 3 {
		expectTold(t, "P6: asked again", tell(s), want)
	}
	if want.Gen != 2 {
		t.Errorf("P6: generation %d", want.Gen)
	}
}

func TestKeys(t *testing.T) {
	lengths := []int{254, 255, 256, 257, 1 << 20}
	for n := 33; n >= 0; n-- {
		lengths = append([]int{n}, lengths...)
	}
	for _, c := range []struct {
		alg, points, probes int
		want                string
	}{
		{api.Maglev, 1, 1, "fffbcdeaeefebedfgeabehdafbecdfefdfcfcec"},
		{api.Rendezvous, 1, 1, "hfecefcfffcdffcfffeffgehfaebfccffdgedeb"},
		{api.Ring, 1, 1, "gedffaehcedacbcffcdfchdfhdgghfbhhfhfdfd"},
		{api.Ring, 2, 1, "gedfeeffcfdecbcffcdhcfafcdgghfhfcffffhb"},
		{api.Ring, 3, 1, "geddeeffcfdhfbcddcdhcfaecdgghchfcefdfhb"},
		{api.Probes, 1, 1, "ccfbeheehdeebfheeedfhefffefcdfhhcdhfcee"},
		{api.Probes, 1, 2, "ccfhcgeefdfehfaeccdehffbfbecdfchcdeecbe"},
		{api.Probes, 1, 3, "ecfhcgeeddffhfabcccfhffbfbcfdcdhcdfedbe"},
		{api.Probes, 1, 4, "ecfhcgecddfahfaceccffedbfccfdccfcdfeghe"},
		{api.Probes, 1, 5, "bdfhchecddfadbaceecffehffcbfdcgfcbfeghf"},
	} {
		k := api.Config{Alg: c.alg, Slots: 211, Points: c.points, Probes: c.probes, Key: usualKey, Formats: 3}
		s := pooled(t, k, backends("a b c d e f g h", 1, 2, 3, 4, 5, 6, 1, 2)...)
		got := ""
		for _, n := range lengths {
			id, e := s.Local(strings.Repeat("x", n))
			expect(t, "Local", e, api.OK)
			got += id
		}
		if got != c.want {
			t.Errorf("P7: algorithm %d: keys of many lengths: %s, want %s", c.alg, got, c.want)
		}
	}
}

func TestKeysOfAnyBytes(t *testing.T) {
	s := pooled(t, config(api.Maglev, 7), backends("a b c", 2, 1, 3)...)
	got := ""
	for _, k := range []string{"", "\x00", "\x00\x00", "\xff", "\x80\x81", "é"} {
		id, e := s.Local(k)
		expect(t, "Local", e, api.OK)
		got += id
	}
	if got != "bcccac" {
		t.Errorf("P7: %s", got)
	}
}

func TestOwnerWithoutATable(t *testing.T) {
	for _, alg := range algorithms {
		s := start(t, config(alg, 7))
		local := func(what string, want string, wantErr api.Errno) {
			t.Helper()
			if id, e := s.Local("key"); id != want || e != wantErr {
				t.Errorf("P7: algorithm %d: %s: %q, %v", alg, what, id, e)
			}
		}
		local("nothing is published", "", api.ErrNoTable)
		s.Add("", 1)
		s.Remove("a")
		local("all was refused", "", api.ErrNoTable)
		s.Add("a", 0)
		local("no weight", "", api.ErrNoBackend)
		s.Set("a", 1)
		local("one", "a", api.OK)
		s.Set("a", 0)
		local("no weight again", "", api.ErrNoBackend)
		s.Remove("a")
		local("no backend", "", api.ErrNoBackend)
		if s.Slots() != nil || s.Gen() != 4 {
			t.Errorf("P6: algorithm %d: %q, %d", alg, s.Slots(), s.Gen())
		}
	}
}

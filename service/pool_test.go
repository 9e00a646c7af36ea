package service_test

import (
	"math"
	"strings"
	"testing"

	"spread/api"
	"spread/service"
)

// unchanged carries out a call that must be refused, and compares all that is told ahead of it and behind.
func unchanged(t *testing.T, what string, s *service.Service, want api.Errno, call func() api.Errno) {
	t.Helper()
	ahead := tell(s)
	expect(t, what, call(), want)
	expectTold(t, what+" changed something", tell(s), ahead)
}

func refusedAdd(t *testing.T, s *service.Service, id string, w int, want api.Errno) {
	t.Helper()
	unchanged(t, "Add", s, want, func() api.Errno { return s.Add(id, w) })
}

func refusedSet(t *testing.T, s *service.Service, id string, w int, want api.Errno) {
	t.Helper()
	unchanged(t, "Set", s, want, func() api.Errno { return s.Set(id, w) })
}

func refusedRemove(t *testing.T, s *service.Service, id string) {
	t.Helper()
	unchanged(t, "Remove", s, api.ErrUnknown, func() api.Errno { return s.Remove(id) })
}

func TestExampleThree(t *testing.T) {
	s := pooled(t, config(api.Maglev, 7), backends("b a", 1, 2)...)
	refusedAdd(t, s, "a", 2, api.ErrDup)
	refusedAdd(t, s, "c", 7, api.ErrWeight)
	refusedAdd(t, s, "", 1, api.ErrID)
	refusedSet(t, s, "z", 9, api.ErrWeight)
	refusedSet(t, s, "z", 1, api.ErrUnknown)
}

var wrongNames = []string{"", "123456789", "\x00\x00\x00\x00\x00\x00\x00\x00\x00", strings.Repeat("é", 5), strings.Repeat("x", 256+8), strings.Repeat("x", 1<<20)}

var wrongWeights = []int{-1, 7, 8, -6, 256, 256 + 6, 1<<32 + 1, -1 << 32, math.MinInt, math.MaxInt}

func TestAddRefused(t *testing.T) {
	for _, alg := range algorithms {
		for size := range api.MaxPool + 1 {
			s := pooled(t, config(alg, 13), backends("a b c d e f g h", 1, 0, 3, 2, 6, 1, 0, 4)[:size]...)
			for _, id := range wrongNames {
				refusedAdd(t, s, id, 1, api.ErrID)
				refusedAdd(t, s, id, -1, api.ErrID)
				refusedAdd(t, s, id, 7, api.ErrID)
			}
			for _, w := range wrongWeights {
				refusedAdd(t, s, "new", w, api.ErrWeight)
				refusedAdd(t, s, "a", w, api.ErrWeight)
			}
			if size > 0 {
				refusedAdd(t, s, "a", 1, api.ErrDup)
				refusedAdd(t, s, "a", 0, api.ErrDup)
				refusedAdd(t, s, string([]byte{byte('a' + size - 1)}), 6, api.ErrDup)
			}
			if size == api.MaxPool {
				refusedAdd(t, s, "new", 1, api.ErrFull)
				refusedAdd(t, s, "A", 0, api.ErrFull)
			}
		}
	}
}

func TestSetAndRemoveRefused(t *testing.T) {
	for _, alg := range algorithms {
		for size := range api.MaxPool + 1 {
			s := pooled(t, config(alg, 13), backends("a b c d e f g h", 1, 0, 3, 2, 6, 1, 0, 4)[:size]...)
			for _, w := range wrongWeights {
				refusedSet(t, s, "a", w, api.ErrWeight)
				refusedSet(t, s, "z", w, api.ErrWeight)
				refusedSet(t, s, "", w, api.ErrWeight)
			}
			for _, id := range append([]string{"z", "A", "aa", "a\x00", "\x00", "12345678"}, wrongNames...) {
				refusedSet(t, s, id, 0, api.ErrUnknown)
				refusedSet(t, s, id, 6, api.ErrUnknown)
				refusedRemove(t, s, id)
			}
		}
	}
}

func TestNamesAndWeightsAtTheirBounds(t *testing.T) {
	for _, alg := range algorithms {
		s := start(t, config(alg, 13))
		for i, id := range []string{"1", "1234567", "12345678", "\x00", "\xff\xff\xff\xff\xff\xff\xff\xff", strings.Repeat("é", 4), "a\x00", "a"} {
			for w := range api.MaxWeight + 1 {
				expect(t, "Add", s.Add(id, w), api.OK)
				expect(t, "Set", s.Set(id, api.MaxWeight-w), api.OK)
				expect(t, "Remove", s.Remove(id), api.OK)
			}
			expect(t, "Add", s.Add(id, 1), api.OK)
			if want := i*(3*7+1) + 3*7 + 1; s.Gen() != want {
				t.Fatalf("P4: generation %d, want %d", s.Gen(), want)
			}
		}
	}
}

func TestEveryChangeIsOneGeneration(t *testing.T) {
	for _, alg := range algorithms {
		s := start(t, config(alg, 7))
		gen := 0
		changed := func(what string, e api.Errno) {
			t.Helper()
			gen++
			if e != api.OK || s.Gen() != gen {
				t.Errorf("P4: algorithm %d: %s: %v, generation %d, want %d", alg, what, e, s.Gen(), gen)
			}
		}
		changed("the first", s.Add("a", 0))
		changed("a second without weight", s.Add("b", 0))
		changed("Set to what it is, without weight", s.Set("a", 0))
		changed("Remove without weight", s.Remove("b"))
		changed("Set", s.Set("a", 2))
		slots := s.Slots()
		changed("Set to what it is", s.Set("a", 2))
		changed("Set of the only one", s.Set("a", 3))
		changed("Set back", s.Set("a", 2))
		changed("Add without weight", s.Add("c", 0))
		if strings.Join(slots, " ") != strings.Join(s.Slots(), " ") {
			t.Errorf("P5: algorithm %d: %q, then %q", alg, slots, s.Slots())
		}
		s.Drop()
		s.Slots()
		s.Local("key")
		changed("the last but one", s.Remove("a"))
		changed("the last", s.Remove("c"))
		changed("anew", s.Add("a", 2))
	}
}

func TestRoomAfterRemove(t *testing.T) {
	s := pooled(t, config(api.Maglev, 13), backends("a b c d e f g h", 0, 0, 0, 0, 0, 0, 0, 0)...)
	refusedAdd(t, s, "i", 1, api.ErrFull)
	for _, id := range []string{"d", "a", "h"} {
		expect(t, "Remove", s.Remove(id), api.OK)
		refusedRemove(t, s, id)
		refusedSet(t, s, id, 1, api.ErrUnknown)
		expect(t, "Add", s.Add(id+"2", 1), api.OK)
		refusedAdd(t, s, id+"2", 1, api.ErrDup)
		refusedAdd(t, s, id, 1, api.ErrFull)
	}
}

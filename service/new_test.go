package service_test

import (
	"math"
	"strings"
	"testing"

	"spread/api"
	"spread/service"
)

func expectNew(t *testing.T, c api.Config, right bool) {
	t.Helper()
	s, e := service.New(c)
	if right && (s == nil || e != api.OK) {
		t.Errorf("P3: refused: %+v: %v", c, e)
	}
	if !right && (s != nil || e != api.ErrConfig) {
		t.Errorf("P3: not refused: %+v: %v", c, e)
	}
}

var farNumbers = []int{math.MinInt, math.MinInt + 1, -1 << 32, -256, 256, 1<<32 + 1, 1<<32 + 3, math.MaxInt - 1, math.MaxInt}

// around is all small numbers, and some that are far off.
func around() []int {
	l := append([]int{}, farNumbers...)
	for n := -10; n <= 10; n++ {
		l = append(l, n)
	}
	return l
}

func TestNewAlg(t *testing.T) {
	for _, n := range around() {
		c := config(n, 7)
		expectNew(t, c, n >= 1 && n <= 4)
	}
}

func TestNewSlots(t *testing.T) {
	sieve := make([]bool, 1000)
	for d := 2; d < len(sieve); d++ {
		for n := 2 * d; n < len(sieve); n += d {
			sieve[n] = true
		}
	}
	for _, alg := range algorithms {
		for n := -300; n < len(sieve); n++ {
			expectNew(t, config(alg, n), n >= 3 && n <= 211 && !sieve[n])
		}
		for _, n := range farNumbers {
			expectNew(t, config(alg, n), false)
		}
		for _, prime := range []int{223, 65537, 1<<31 - 1, 1<<61 - 1} {
			expectNew(t, config(alg, prime), false)
		}
	}
}

func TestNewPointsProbesFormats(t *testing.T) {
	for _, alg := range algorithms {
		for _, n := range around() {
			c := config(alg, 13)
			c.Points = n
			expectNew(t, c, n >= 1 && n <= 3)
			c = config(alg, 13)
			c.Probes = n
			expectNew(t, c, n >= 1 && n <= 5)
			c = config(alg, 13)
			c.Formats = n
			expectNew(t, c, n >= 1 && n <= 3)
		}
	}
}

func TestNewKey(t *testing.T) {
	for _, alg := range algorithms {
		for n := range 40 {
			c := config(alg, 13)
			c.Key = strings.Repeat("k", n)
			expectNew(t, c, n == 16)
		}
		for key, right := range map[string]bool{
			strings.Repeat("\x00", 16):            true,
			strings.Repeat("\xff", 16):            true,
			strings.Repeat("é", 8):                true,
			strings.Repeat("é", 16):               false,
			strings.Repeat("\x00", 15):            false,
			"0123456789abcdef\x00":                false,
			strings.Repeat(usualKey, 1<<12):       false,
			strings.Repeat("k", 16+256):           false,
			"0123456789abcde" + string(rune(255)): false,
		} {
			c := config(alg, 13)
			c.Key = key
			expectNew(t, c, right)
		}
	}
}

func TestNewIsEmptyAndUnpublished(t *testing.T) {
	for _, alg := range algorithms {
		s := start(t, config(alg, 7))
		if s.Gen() != 0 || s.Slots() != nil {
			t.Errorf("P3, P6: algorithm %d: generation %d, slots %q", alg, s.Gen(), s.Slots())
		}
		for _, k := range someKeys {
			if id, e := s.Local(k); id != "" || e != api.ErrNoTable {
				t.Errorf("P7: algorithm %d: %q, %v", alg, id, e)
			}
		}
		expect(t, "Remove of an empty pool", s.Remove("a"), api.ErrUnknown)
		expect(t, "Set of an empty pool", s.Set("a", 1), api.ErrUnknown)
		if s.Gen() != 0 || s.Slots() != nil {
			t.Errorf("P1: algorithm %d: a refused call publishes", alg)
		}
	}
}

package service_test

import (
	"fmt"
	"reflect"
	"testing"

	"spread/api"
	"spread/service"
)

// The names and keys here were looked for until their hashes under the usual key were what the remark says; each test checks that they are.

// point is where a copy of a backend lies.
func point(alg int, copy int, id string) uint64 {
	letter := map[int]string{api.Ring: "r", api.Probes: "m"}[alg]
	return oracleHash(usualKey, letter, []int{copy}, id)
}

// These copies of the two names lie at one point; the names rise.
var equalPoints = []struct {
	alg    int
	copies [2]int
	names  [2]string
}{
	{api.Ring, [2]int{0, 0}, [2]string{"\x4b\x99\x0d\x84\x05\x06\x65\x0f", "\xcb\xe9\x62\xdd\x3c\x6c\xa8\xa3"}},
	{api.Ring, [2]int{0, 0}, [2]string{"\x24\x75\xe5\x88\x20\x76\xaf\xed", "\xf0\x9a\x25\x2c\xa9\xa4\xd8\x22"}},
	{api.Ring, [2]int{0, 1}, [2]string{"\x52\x60\xd0\x14\x66\x3c\x05\x40", "\xac\x9f\x59\x57\xd8\x78\x32\xcd"}},
	{api.Ring, [2]int{0, 1}, [2]string{"\x18\xd4\xca\xd2\xc4\x77\xa8\x1e", "\x18\xd5\xec\xf7\xed\x5d\x1e\xf4"}},
	{api.Ring, [2]int{1, 0}, [2]string{"\x0f\x08\xd0\xa5\xad\xb6\x96\x32", "\x69\x49\xb8\x10\xf5\xe4\xf5\xe8"}},
	{api.Probes, [2]int{0, 0}, [2]string{"\xac\xd6\x84\x7a\x20\x2b\xb4\x4d", "\xca\x0d\x60\xe1\xe6\xdd\xf3\x24"}},
	{api.Probes, [2]int{0, 0}, [2]string{"\x75\x74\x26\x06\xc3\x51\x0c\xe4", "\xd7\xea\xbf\x6b\x72\xfb\x8a\x0f"}},
	{api.Probes, [2]int{0, 1}, [2]string{"\x3b\xac\x34\xa4\xb1\x5d\xd6\x4d", "\xba\x96\x92\xa5\xad\xec\x05\xd5"}},
	{api.Probes, [2]int{1, 0}, [2]string{"\xb1\x12\x40\x74\x97\x14\x19\x92", "\xbc\xef\x8d\x32\x7c\x04\x19\x66"}},
}

func TestEqualPointsStandByNames(t *testing.T) {
	for _, c := range equalPoints {
		if point(c.alg, c.copies[0], c.names[0]) != point(c.alg, c.copies[1], c.names[1]) {
			t.Fatalf("%q: these points differ", c.names)
		}
		for first := range 2 {
			for more := range 4 {
				b := api.Backend{ID: c.names[first], Weight: c.copies[first] + 1 + more}
				d := api.Backend{ID: c.names[1-first], Weight: c.copies[1-first] + 1}
				expectAsTheOracle(t, pooled(t, pointed(c.alg, 1, 1), b, d), pointed(c.alg, 1, 1), b, d)
			}
		}
	}
}

func expectAsTheOracle(t *testing.T, s *service.Service, c api.Config, backends ...api.Backend) {
	t.Helper()
	weights := map[string]int{}
	for _, b := range backends {
		weights[b.ID] = b.Weight
	}
	slots, points := oracleSlots(c, weights), oraclePoints(c, weights)
	if got := s.Slots(); !reflect.DeepEqual(got, slots) {
		t.Errorf("P5: algorithm %d: %q, want %q", c.Alg, got, slots)
	}
	for i := range 100 {
		key := fmt.Sprint("key", i)
		expectOwner(t, "beside the oracle", s, key, oracleOwner(c, slots, points, key))
	}
}

// The key's hash (of probes that of the probe) is the first copy's point.
var hits = []struct {
	alg, probe int
	key, id    string
}{
	{api.Ring, 0, "\xde\x6a\x9b\xa8\xec\x65\xfc\x51", "\xb8\x1d\xd2\xa5\x6f\x5a\x10\xe8"},
	{api.Ring, 0, "\xed\x59\x27\x62\x2c\xfa\xf4\x79", "\x7e\x00\x34\x9f\x32\x3a\xd9\xae"},
	{api.Probes, 0, "\xce\x9f\xae\x78\x55\x26\xc2\x26", "\x60\x8a\x7d\xb4\x03\x05\xa5\xaf"},
	{api.Probes, 0, "\x46\x43\x92\x0a\x1b\xee\x08\x3e", "\x6a\x2f\x14\xa5\x93\x6f\xd6\xd8"},
	{api.Probes, 4, "\x13\xe1\x61\x63\xc1\xe9\x1b\x6a", "\x00\xf7\x5f\xd6\xf6\x26\x1e\xd9"},
}

func TestKeysThatHitAPoint(t *testing.T) {
	for _, c := range hits {
		h := oracleHash(usualKey, "k", nil, c.key)
		if c.alg == api.Probes {
			h = oracleHash(usualKey, "p", []int{c.probe}, c.key)
		}
		if h != point(c.alg, 0, c.id) {
			t.Fatalf("%q does not hit %q", c.key, c.id)
		}
		for probes := c.probe + 1; probes <= api.MaxProbes; probes++ {
			s := pooled(t, pointed(c.alg, 3, probes), backends("a b c d", 6, 6, 6, 6)...)
			if id, _ := s.Local(c.key); id == c.id {
				t.Fatalf("%q is in the pool", id)
			}
			expect(t, "Add", s.Add(c.id, 1), api.OK)
			expectOwner(t, "a key that hits a point", s, c.key, c.id)
			expect(t, "Remove", s.Remove(c.id), api.OK)
			expect(t, "Add", s.Add(c.id, 6), api.OK)
			expectOwner(t, "a key that hits a point", s, c.key, c.id)
		}
		for probes := 1; probes <= c.probe; probes++ {
			s := pooled(t, pointed(c.alg, 3, probes), backends("a b c d", 6, 6, 6, 6)...)
			owner, _ := s.Local(c.key)
			expect(t, "Add", s.Add(c.id, 1), api.OK)
			expectOwner(t, "a probe that is not asked", s, c.key, owner)
		}
	}
}

// Probe 0 of the key is as far from the name's point as probe 1 is from that of "a". The first name stands ahead of "a", by names and by points; the second one behind.
var equalDistances = []struct {
	key, id string
	ahead   bool
}{
	{"\x87\x14\xaa\x74\x7f\xe2\x28\x2a", "\x50\x0d\xb3\xc1\x2d\x16\xd4\xe6", true},
	{"\x51\x39\xab\xb4\xd3\xac\xe7\x78", "\x99\xf2\x0f\x23\x20\xf0\xd8\xad", false},
}

func TestOfEqualDistancesTheFirstProbe(t *testing.T) {
	for _, c := range equalDistances {
		p, a := point(api.Probes, 0, c.id), point(api.Probes, 0, "a")
		zero, one := oracleHash(usualKey, "p", []int{0}, c.key), oracleHash(usualKey, "p", []int{1}, c.key)
		if p-zero != a-one || p-zero > p-a || a-one > a-p {
			t.Fatalf("%q: these distances differ", c.key)
		}
		for first := range 2 {
			pool := []api.Backend{{ID: c.id, Weight: 1}, {ID: "a", Weight: 1}}
			s := pooled(t, pointed(api.Probes, 1, 2), pool[first], pool[1-first])
			want := map[bool]string{true: c.id + " a", false: "a " + c.id}[c.ahead]
			expectSlots(t, "P5: two points", s, want)
			expectOwner(t, "of equal distances the first probe", s, c.key, c.id)
		}
	}
}

package table_test

import (
	"fmt"
	"math"
	"testing"

	"spread/api"
	"spread/siphash"
	"spread/table"
)

// Points that no names can be found for are laid by hand here.

const key = "0123456789abcdef"

func laid(alg int, probes int, points ...uint64) table.Table {
	t := table.Table{Config: api.Config{Alg: alg, Slots: 7, Points: 1, Probes: probes, Key: key, Formats: 3}}
	for i, p := range points {
		t.Pool = append(t.Pool, api.Backend{ID: fmt.Sprint(i), Weight: 1})
		t.Entries = append(t.Entries, table.Entry{Point: p, Owner: i})
	}
	return t
}

func expectOwner(t *testing.T, what string, l table.Table, text string, want string) {
	t.Helper()
	if id, e := l.Owner(text); id != want || e != api.OK {
		t.Errorf("P7: %s: %q, %v, want %q", what, id, e, want)
	}
}

func TestFirstPointNotBelow(t *testing.T) {
	for _, text := range []string{"", "x", "key0", "key1"} {
		for alg, h := range map[int]uint64{
			api.Ring:   siphash.Hash(key, 'k', nil, text),
			api.Probes: siphash.Hash(key, 'p', []int{0}, text),
		} {
			for _, c := range []struct {
				what   string
				points []uint64
				want   string
			}{
				{"a point just below, and one that is hit", []uint64{h - 1, h, h + 1}, "1"},
				{"a point just above", []uint64{h - 2, h - 1, h + 1}, "2"},
				{"all below", []uint64{0, h - 2, h - 1}, "0"},
				{"all above", []uint64{h + 1, h + 2, math.MaxUint64}, "0"},
				{"the greatest point of all", []uint64{0, h - 1, math.MaxUint64}, "2"},
				{"the first is hit", []uint64{h, h + 1, math.MaxUint64}, "0"},
				{"the last is hit", []uint64{0, h - 1, h}, "2"},
				{"equal ones are hit", []uint64{h - 1, h, h, h}, "1"},
				{"equal ones above", []uint64{h - 1, h + 9, h + 9}, "1"},
				{"equal ones, all below", []uint64{h - 1, h - 1}, "0"},
				{"the ends alone", []uint64{0, math.MaxUint64}, "1"},
				{"the least point alone", []uint64{0}, "0"},
			} {
				expectOwner(t, fmt.Sprintf("algorithm %d, key %q: %s", alg, text, c.what), laid(alg, 1, c.points...), text, c.want)
			}
		}
	}
}

// probesOf finds a key whose probe 1 lies below its probe 0, and far from it and from both ends.
func probesOf(t *testing.T) (string, uint64, uint64) {
	for i := range 100 {
		text := fmt.Sprint("key", i)
		zero, one := siphash.Hash(key, 'p', []int{0}, text), siphash.Hash(key, 'p', []int{1}, text)
		if 1<<32 < one && one < 1<<63 && 1<<63 < zero-1<<32 && zero < math.MaxUint64-1<<32 {
			return text, one, zero
		}
	}
	t.Fatal("no such key")
	return "", 0, 0
}

func TestLeastDistance(t *testing.T) {
	text, one, zero := probesOf(t)
	for _, c := range []struct {
		what   string
		points []uint64
		want   string
	}{
		{"probe 1 is nearer", []uint64{one + 3, zero + 4}, "0"},
		{"probe 0 is nearer", []uint64{one + 4, zero + 3}, "1"},
		{"both are as near: probe 0", []uint64{one + 5, zero + 5}, "1"},
		{"both hit: probe 0", []uint64{one, zero}, "1"},
		{"probe 1 hits, probe 0 nearly", []uint64{one, zero + 1}, "0"},
		{"probe 0 goes round, and is farther", []uint64{0, one + 7, zero - 1}, "1"},
		{"points just below do not count", []uint64{one - 1, one + 9, zero - 1, zero + 8}, "3"},
	} {
		expectOwner(t, c.what, laid(api.Probes, 2, c.points...), text, c.want)
	}
	expectOwner(t, "one probe alone", laid(api.Probes, 1, one, zero+100), text, "1")
}

func TestGoingRoundIsNearer(t *testing.T) {
	tried := 0
	for i := range 100 {
		text := fmt.Sprint("key", i)
		zero, one := siphash.Hash(key, 'p', []int{0}, text), siphash.Hash(key, 'p', []int{1}, text)
		if zero < 1<<62 && one > 3<<62 {
			tried++
			expectOwner(t, "probe 1 goes round, probe 0 has farther to the last point", laid(api.Probes, 2, 0, one-1), text, "0")
		}
	}
	if tried == 0 {
		t.Error("no such key")
	}
}

func TestNoEntries(t *testing.T) {
	for _, alg := range []int{api.Maglev, api.Ring, api.Rendezvous, api.Probes} {
		l := laid(alg, 5)
		if id, e := l.Owner("key"); id != "" || e != api.ErrNoBackend || l.Names() != nil {
			t.Errorf("P7: algorithm %d: %q, %v, %q", alg, id, e, l.Names())
		}
	}
}

func TestEntriesHaveTheirPoints(t *testing.T) {
	pool := []api.Backend{{ID: "a", Weight: 1}, {ID: "b", Weight: 2}}
	for alg, letter := range map[int]byte{api.Ring: 'r', api.Probes: 'm'} {
		l := table.Make(api.Config{Alg: alg, Slots: 7, Points: 1, Probes: 1, Key: key, Formats: 3}, pool)
		if len(l.Entries) != 3 {
			t.Fatalf("P5: algorithm %d: %v", alg, l.Entries)
		}
		copies := map[string]int{}
		for i, e := range l.Entries {
			id := pool[e.Owner].ID
			if i > 0 && l.Entries[i-1].Point > e.Point {
				t.Errorf("P5: algorithm %d: points fall: %v", alg, l.Entries)
			}
			for k := range pool[e.Owner].Weight {
				if e.Point == siphash.Hash(key, letter, []int{k}, id) {
					copies[fmt.Sprint(id, k)]++
				}
			}
		}
		if fmt.Sprint(copies) != "map[a0:1 b0:1 b1:1]" {
			t.Errorf("P5: algorithm %d: %v of %v", alg, copies, l.Entries)
		}
	}
}

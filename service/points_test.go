package service_test

import (
	"fmt"
	"reflect"
	"strings"
	"testing"

	"spread/api"
	"spread/service"
)

func pointed(alg int, points int, probes int) api.Config {
	c := config(alg, 7)
	c.Points = points
	c.Probes = probes
	return c
}

func expectOwner(t *testing.T, what string, s *service.Service, key string, want string) {
	t.Helper()
	if id, e := s.Local(key); id != want || e != api.OK {
		t.Errorf("P7: %s: key %.20q: %q, %v, want %q", what, key, id, e, want)
	}
}

// owners tells the owners of key0, key1, and so on, one letter each.
func owners(t *testing.T, s *service.Service, keys int) string {
	t.Helper()
	got := ""
	for i := range keys {
		id, e := s.Local(fmt.Sprintf("key%d", i))
		expect(t, "Local", e, api.OK)
		got += id
	}
	return got
}

func TestExampleFive(t *testing.T) {
	s := pooled(t, pointed(api.Ring, 2, 1), backends("a b c", 1, 2, 1)...)
	expectSlots(t, "P5: example 5", s, "b b b c a c a b")
}

func TestExampleSix(t *testing.T) {
	s := pooled(t, pointed(api.Probes, 1, 5), backends("a b c", 1, 1, 1)...)
	expectSlots(t, "P5: example 6", s, "b a c")
	if got := owners(t, s, 6); got != "baacac" {
		t.Errorf("P7: example 6: %s", got)
	}
}

func TestFullPoolsOfPoints(t *testing.T) {
	for _, c := range []struct {
		alg, points int
		want        string
	}{
		{api.Ring, 1, "bbdgghfdcbhefdgaeeccchadfbfcegbdcagdagahfhaehbef"},
		{api.Ring, 2, "bbdgghghbdaefddbdcbhcfeecfadchgfeaeaeedcchchafchbadfgdbbfcegbhbdgdcbagcafdaggahfhceafaehhggbfeef"},
		{api.Ring, 3, "bbbdgghghhfebbcdafaefegddbdgcbhcchfeecdfhfacdchgbfeaecaedgedcchacbahcafdafchedbgaddfhgdbbcbfcegebhbdgdfchbagfcagfbdaaagggahfhceafaedhhhgegbefeef"},
		{api.Probes, 1, "cbhbbahedgghabbggffaaceadhdcchfegghdffdeccadefeb"},
		{api.Probes, 2, "cbhbbahedgghabbggffaaceadhdcchfegghdffdeccadefeb"},
		{api.Probes, 3, "cbhbbahedgghabbggffaaceadhdcchfegghdffdeccadefeb"},
	} {
		s := pooled(t, pointed(c.alg, c.points, 1), backends("h a g b f c e d", 6, 6, 6, 6, 6, 6, 6, 6)...)
		expectSlots(t, fmt.Sprintf("P5: algorithm %d, Points %d: a full pool", c.alg, c.points), s, strings.Join(strings.Split(c.want, ""), " "))
	}
}

func TestPoolOfOneOfPoints(t *testing.T) {
	const id = "\x00\xff"
	for points := 1; points <= api.MaxPoints; points++ {
		for w := 1; w <= api.MaxWeight; w++ {
			for alg, many := range map[int]int{api.Ring: points * w, api.Probes: w} {
				s := pooled(t, pointed(alg, points, 5), api.Backend{ID: id, Weight: w})
				expectSlots(t, "P5: a pool of one", s, strings.TrimSpace(strings.Repeat(id+" ", many)))
				for _, k := range someKeys {
					expectOwner(t, "a pool of one", s, k, id)
				}
			}
		}
	}
}

// A ring's points are Points times the weight: of those that come to as many the points are the same, and so are the keys' owners.
func TestPointsTimesWeight(t *testing.T) {
	want := tell(pooled(t, pointed(api.Ring, 1, 1), backends("a b", 6, 6)...))
	for points, w := range map[int]int{2: 3, 3: 2} {
		got := tell(pooled(t, pointed(api.Ring, points, 1), backends("a b", w, w)...))
		expectTold(t, fmt.Sprintf("P5: Points %d, weight %d", points, w), got, want)
	}
}

func TestWhatDoesNotCountForPoints(t *testing.T) {
	pool := backends("a b c d", 2, 0, 3, 1)
	for points := 1; points <= api.MaxPoints; points++ {
		for probes := 1; probes <= api.MaxProbes; probes++ {
			ring, probing := pointed(api.Ring, points, probes), pointed(api.Probes, points, probes)
			ring.Slots, ring.Formats = 211, 1
			probing.Slots, probing.Formats = 211, 2
			expectTold(t, "P5: other slots, probes, formats of a ring", tell(pooled(t, ring, pool...)), tell(pooled(t, pointed(api.Ring, points, 1), pool...)))
			expectTold(t, "P5: other slots, points, formats of probes", tell(pooled(t, probing, pool...)), tell(pooled(t, pointed(api.Probes, 1, probes), pool...)))
		}
	}
}

func TestWithoutWeightNoPoint(t *testing.T) {
	for _, alg := range []int{api.Ring, api.Probes} {
		c := pointed(alg, 3, 5)
		want := pooled(t, c, backends("b d", 2, 3)...)
		s := pooled(t, c, backends("a b c d e", 0, 2, 0, 3, 0)...)
		if !reflect.DeepEqual(s.Slots(), want.Slots()) {
			t.Errorf("P5: algorithm %d: %q, want %q", alg, s.Slots(), want.Slots())
		}
		if got := owners(t, s, 50); got != owners(t, want, 50) {
			t.Errorf("P7: algorithm %d: %s", alg, got)
		}
	}
}

func TestOwnersOnARing(t *testing.T) {
	for points, want := range map[int]string{
		1: "bcaaaaabcccccaccbccccccc",
		2: "bcaaaaabcccccaccbccccccc",
		3: "bccaacabcccccaacbccccacc",
	} {
		s := pooled(t, pointed(api.Ring, points, 5), backends("a b c", 2, 1, 3)...)
		if got := owners(t, s, 24); got != want {
			t.Errorf("P7: Points %d: %s, want %s", points, got, want)
		}
	}
}

func TestOwnersByProbes(t *testing.T) {
	for probes, want := range map[int]string{
		1: "bbcbabcbcbccbabbbbbcbbbb",
		2: "bccacbaccbccbccacbbbcaac",
		3: "baacccaccbcbbacacbbbcaac",
		4: "baacccaccbcbbacacbaacaac",
		5: "baacccaccbcabacaccaacaac",
	} {
		s := pooled(t, pointed(api.Probes, 3, probes), backends("a b c", 2, 1, 3)...)
		expectSlots(t, "P5: six points", s, "b a c a c c")
		if got := owners(t, s, 24); got != want {
			t.Errorf("P7: Probes %d: %s, want %s", probes, got, want)
		}
	}
}

// Some of these keys lie behind the last point, which a's is: they go round to the first one, which is b's.
func TestKeysBehindTheLastPoint(t *testing.T) {
	pool := map[string]int{"a": 2, "b": 1, "c": 3}
	s := pooled(t, pointed(api.Ring, 1, 1), backends("a b c", 2, 1, 3)...)
	points := oraclePoints(pointed(api.Ring, 1, 1), pool)
	last := points[len(points)-1]
	if points[0].id != "b" || last.id != "a" {
		t.Fatalf("other points: %v", points)
	}
	for _, n := range []int{0, 7, 16, 27, 59, 79, 90, 102} {
		key := fmt.Sprintf("key%d", n)
		if oracleHash(usualKey, "k", nil, key) <= last.point {
			t.Fatalf("%s does not lie behind the last point", key)
		}
		expectOwner(t, "behind the last point", s, key, "b")
	}
}

// Of probes the first point is b's and the last one is c's.
func TestProbesBehindTheLastPoint(t *testing.T) {
	pool := map[string]int{"a": 2, "b": 1, "c": 3}
	s := pooled(t, pointed(api.Probes, 1, 1), backends("a b c", 2, 1, 3)...)
	points := oraclePoints(pointed(api.Probes, 1, 1), pool)
	last := points[len(points)-1]
	if points[0].id != "b" || last.id != "c" {
		t.Fatalf("other points: %v", points)
	}
	for _, n := range []int{0, 12, 14, 17, 21, 22, 23, 24} {
		key := fmt.Sprintf("key%d", n)
		if oracleHash(usualKey, "p", []int{0}, key) <= last.point {
			t.Fatalf("%s does not lie behind the last point", key)
		}
		expectOwner(t, "behind the last point", s, key, "b")
	}
}

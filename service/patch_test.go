package service_test

import (
	"fmt"
	"math"
	"math/rand"
	"testing"

	"spread/api"
	"spread/service"
)

// expectPatch wants the patch between two pictures, in each format of both.
func expectPatch(t *testing.T, what string, a picture, b picture, want laidPatch) {
	t.Helper()
	for i := range 4 {
		from, to := a.in(1+i/2).image(), b.in(1+i%2).image()
		if got := hexed(service.Patch(from, to)); got != hexed(want.patch(), api.OK) {
			t.Errorf("P9: %s, formats %d and %d:\ngot  %s\nwant %s", what, 1+i/2, 1+i%2, got, hexed(want.patch(), api.OK))
		}
	}
}

// expectTurned wants the patch between two pictures to be as the document says, and to turn the one into the other.
func expectTurned(t *testing.T, what string, a picture, b picture) {
	t.Helper()
	want := between(a, b)
	expectPatch(t, what, a, b, want)
	for format := 1; format <= 2; format++ {
		expectApplied(t, what, want, a.in(format), hexed(b.in(1).image(), api.OK))
	}
}

func expectApplied(t *testing.T, what string, p laidPatch, a picture, want string) {
	t.Helper()
	if got := hexed(service.Apply(p.patch(), a.image())); got != want {
		t.Errorf("P9: %s: Apply to format %d:\ngot  %s\nwant %s", what, a.format, got, want)
	}
}

// expectSame wants so many entries to be the same in two pictures, and so many between.
func expectSame(t *testing.T, what string, a picture, b picture, ahead int, behind int, count int) {
	t.Helper()
	p := between(a, b)
	if p.ahead != ahead || p.behind != behind || p.count != count {
		t.Errorf("%s: %d, %d, %d", what, p.ahead, p.behind, p.count)
	}
	p.ahead, p.behind, p.count, p.list = ahead, behind, count, b.list[ahead:ahead+count]
	expectPatch(t, what, a, b, p)
	expectTurned(t, what, a, b)
}

func TestExample9(t *testing.T) {
	s := pooled(t, config(api.Ring, 7), backends("a", 1)...)
	first, _ := s.Image(1)
	expect(t, "Add", s.Add("b", 1), api.OK)
	for format := 1; format <= 2; format++ {
		second, _ := s.Image(format)
		patch, e := service.Patch(first, second)
		if got := hexed(patch, e); got != "435000000001b00f6b7b000000020201610101620100000001000103ff2132ebd6ed4a01f94a97ed OK" {
			t.Errorf("P9: %s", got)
		}
		if got := hexed(service.Apply(patch, second)); got != " ErrBase" {
			t.Errorf("P9: applied to the second image: %s", got)
		}
		want, _ := s.Image(1)
		if got := hexed(service.Apply(patch, first)); got != hexed(want, api.OK) {
			t.Errorf("P9: applied to the first image: %s", got)
		}
	}
}

func TestPatchesBetweenPools(t *testing.T) {
	for _, alg := range algorithms {
		for _, c := range someConfigs[:3] {
			c.Alg = alg
			for i, from := range somePools {
				for j, to := range somePools {
					expectTurned(t, fmt.Sprint(from, " to ", to), drawn(c, 1+i, from...), drawn(c, 1+j, to...))
				}
				expectTurned(t, fmt.Sprint(from, " to none"), drawn(c, 1+i, from...), drawn(c, 300))
				expectTurned(t, fmt.Sprint("none to ", from), drawn(c, 300), drawn(c, 1+i, from...))
			}
			expectTurned(t, "none to none", drawn(c, 1), drawn(c, 2))
		}
	}
}

// A service's images, one behind the other, over random changes.
func TestPatchesOfAService(t *testing.T) {
	r := rand.New(rand.NewSource(9))
	for _, alg := range algorithms {
		c := api.Config{Alg: alg, Slots: 31, Points: 2, Probes: 3, Key: usualKey, Formats: 3}
		s := pooled(t, c, backends("a b", 1, 2)...)
		a, _ := s.Image(1)
		for range 100 {
			id := string("abcdefghi"[r.Intn(9)])
			switch r.Intn(4) {
			case 0, 1:
				s.Add(id, r.Intn(7))
			case 2:
				s.Set(id, r.Intn(7))
			case 3:
				s.Remove(id)
			}
			b, _ := s.Image(2)
			whole, _ := s.Image(1)
			p, _ := read(a)
			q, ok := read(b)
			if !ok {
				t.Fatalf("P8: a service's image: %x", b)
			}
			patch, e := service.Patch(a, b)
			if got := hexed(patch, e); got != hexed(between(p, q).patch(), api.OK) {
				t.Errorf("P9: %s", got)
			}
			if got := hexed(service.Apply(patch, a)); got != hexed(whole, api.OK) {
				t.Errorf("P9: %s, want %x", got, whole)
			}
			if r.Intn(3) > 0 {
				a = b
			}
		}
	}
}

func TestPatchOfWrongImages(t *testing.T) {
	for _, alg := range algorithms {
		right := plain(alg).image()
		body := plain(alg).body()
		late := plain(alg)
		late.gen = 0
		bent := []byte(right)
		bent[20] ^= 1
		patch, _ := service.Patch(right, right)
		for what, wrong := range map[string]string{
			"empty": "", "no sum": body, "cut": right[:len(right)-1], "cut and sealed": sealed(body[:len(body)-1]), "longer": sealed(body + "\x00"),
			"bent": string(bent), "generation 0": late.image(), "a patch": patch, "format 3": plain(alg).in(3).image(),
		} {
			for _, pair := range [][2]string{{right, wrong}, {wrong, right}, {wrong, wrong}} {
				if got := hexed(service.Patch(pair[0], pair[1])); got != " ErrImage" {
					t.Errorf("P9: Patch with a wrong image (%s): %s", what, got)
				}
			}
		}
	}
}

func TestPatchOfTwoConfigurations(t *testing.T) {
	tried := map[string]int{}
	for _, a := range []picture{bare(api.Maglev), bare(api.Ring), plain(api.Ring), plain(api.Probes), asMany(config(api.Maglev, 5), 5, 1), asMany(config(api.Ring, 5), 5, 1), asMany(config(api.Probes, 5), 5, 1)} {
		refused := func(what string, b picture) {
			t.Helper()
			if _, ok := read(b.image()); !ok {
				return // such a table would have other entries
			}
			tried[what]++
			for i := range 4 {
				x, y := a.in(1+i/2).image(), b.in(1+i%2).image()
				if got := hexed(service.Patch(x, y)); got != " ErrImage" {
					t.Errorf("P9: %s: %s", what, got)
				}
				if got := hexed(service.Patch(y, x)); got != " ErrImage" {
					t.Errorf("P9: %s, the other way: %s", what, got)
				}
			}
		}
		expectTurned(t, "one configuration", a, a)
		b := a
		b.c.Alg = map[int]int{api.Maglev: api.Rendezvous, api.Ring: api.Probes, api.Probes: api.Ring}[a.c.Alg]
		refused("two algorithms", b)
		b = a
		b.c.Slots = 11
		refused("two numbers of slots", b)
		b = a
		b.c.Points = 3
		refused("two numbers of points", b)
		b = a
		b.c.Probes = 5
		refused("two numbers of probes", b)
		for i := range api.KeyLen {
			key := []byte(usualKey)
			key[i] ^= 0x80
			b = a
			b.c.Key = string(key)
			refused("two keys", b)
		}
	}
	for _, what := range []string{"two algorithms", "two numbers of slots", "two numbers of points", "two numbers of probes", "two keys"} {
		if tried[what] < 3 {
			t.Errorf("%s: tried %d times", what, tried[what])
		}
	}
}

func TestWhatIsTheSame(t *testing.T) {
	for _, alg := range []int{api.Maglev, api.Rendezvous} {
		pool := backends("a b c", 1, 1, 1)
		a := drawn(config(alg, 7), 5, pool...).owned(0, 0, 0, 0, 0, 0, 0)
		b := a
		b.gen = 6
		expectSame(t, "all", a, a, 7, 0, 0)
		expectSame(t, "all, of two generations", a, b, 7, 0, 0)
		expectSame(t, "all, of two generations, the other way", b, a, 7, 0, 0)
		expectSame(t, "the first differs", a, b.owned(1, 0, 0, 0, 0, 0, 0), 0, 6, 1)
		expectSame(t, "the second differs", a, b.owned(0, 1, 0, 0, 0, 0, 0), 1, 5, 1)
		expectSame(t, "one in the middle differs", a, b.owned(0, 0, 0, 2, 0, 0, 0), 3, 3, 1)
		expectSame(t, "two in the middle differ", a, b.owned(0, 0, 1, 0, 2, 0, 0), 2, 2, 3)
		expectSame(t, "the last but one differs", a, b.owned(0, 0, 0, 0, 0, 1, 0), 5, 1, 1)
		expectSame(t, "the last differs", a, b.owned(0, 0, 0, 0, 0, 0, 1), 6, 0, 1)
		expectSame(t, "both ends differ", a, b.owned(1, 0, 0, 0, 0, 0, 1), 0, 0, 7)
		expectSame(t, "all differ", a, b.owned(1, 2, 1, 2, 1, 2, 1), 0, 0, 7)
		expectSame(t, "the middle alone is the same", a, b.owned(1, 1, 1, 0, 1, 1, 1), 0, 0, 7)
	}
}

func TestWhatIsTheSameOfPoints(t *testing.T) {
	for _, alg := range []int{api.Ring, api.Probes} {
		laid := func(gen int, w int, points ...uint64) picture {
			p := drawn(config(alg, 7), gen, backends("a b", w, 0)...)
			return p.pointedAt(points...)
		}
		a := laid(5, 3, 10, 20, 30)
		expectSame(t, "all", a, laid(6, 3, 10, 20, 30), 3, 0, 0)
		expectSame(t, "one more ahead", a, laid(6, 4, 5, 10, 20, 30), 0, 3, 1)
		expectSame(t, "one more between", a, laid(6, 4, 10, 20, 25, 30), 2, 1, 1)
		expectSame(t, "one more behind", a, laid(6, 4, 10, 20, 30, 35), 3, 0, 1)
		expectSame(t, "two more, apart", a, laid(6, 5, 10, 15, 20, 25, 30), 1, 1, 3)
		expectSame(t, "one fewer ahead", a, laid(6, 2, 20, 30), 0, 2, 0)
		expectSame(t, "one fewer between", a, laid(6, 2, 10, 30), 1, 1, 0)
		expectSame(t, "one fewer behind", a, laid(6, 2, 10, 20), 2, 0, 0)
		expectSame(t, "one other", a, laid(6, 3, 10, 21, 30), 1, 1, 1)
		expectSame(t, "all others", a, laid(6, 3, 11, 21, 31), 0, 0, 3)
		expectSame(t, "none any more", a, laid(6, 0), 0, 0, 0)
		expectSame(t, "none before", laid(4, 0), a, 0, 0, 3)
		expectSame(t, "none ever", laid(4, 0), laid(5, 0), 0, 0, 0)
		expectSame(t, "by the low bit", laid(5, 1, math.MaxUint64-1), laid(6, 1, math.MaxUint64), 0, 0, 1)
		expectSame(t, "by the high bit", laid(5, 1, 7), laid(6, 1, 1<<63+7), 0, 0, 1)
		// Entries that count at the beginning do not count at the end again.
		expectSame(t, "equal points, one more", laid(5, 2, 10, 10), laid(6, 3, 10, 10, 10), 2, 0, 1)
		expectSame(t, "equal points, one fewer", laid(5, 3, 10, 10, 10), laid(6, 2, 10, 10), 2, 0, 0)
		expectSame(t, "equal points, more and another", laid(5, 3, 10, 10, 20), laid(6, 4, 10, 10, 10, 20), 2, 1, 1)
		expectSame(t, "equal points, fewer and another", laid(5, 4, 10, 10, 10, 20), laid(6, 3, 10, 10, 20), 2, 1, 0)
	}
}

// Owners are the same by their names, not by their places.
func TestSameNamesInOtherPools(t *testing.T) {
	for _, alg := range []int{api.Maglev, api.Rendezvous} {
		c := config(alg, 5)
		one := drawn(c, 5, backends("b c", 1, 1)...).owned(0, 1, 0, 1, 1)
		expectSame(t, "one more at the front", one, drawn(c, 6, backends("a b c", 0, 1, 1)...).owned(1, 2, 1, 2, 2), 5, 0, 0)
		expectSame(t, "one more at the front, who owns", one, drawn(c, 6, backends("a b c", 1, 1, 1)...).owned(1, 2, 0, 2, 2), 2, 2, 1)
		expectSame(t, "other weights", one, drawn(c, 6, backends("b c", 6, 5)...).owned(0, 1, 0, 1, 1), 5, 0, 0)
		expectSame(t, "other names at the same places", one, drawn(c, 6, backends("d e", 1, 1)...).owned(0, 1, 0, 1, 1), 0, 0, 5)
		expectSame(t, "one other name", one, drawn(c, 6, backends("b d", 1, 1)...).owned(0, 1, 0, 1, 1), 1, 0, 4)
		expectSame(t, "the places change, the names too", one, drawn(c, 6, backends("a b", 1, 1)...).owned(1, 0, 1, 0, 0), 1, 0, 4)
	}
	for _, alg := range []int{api.Ring, api.Probes} {
		c := config(alg, 5)
		laid := func(gen int, pool []api.Backend, places ...int) picture {
			return drawn(c, gen, pool...).owned(places...).pointedAt(10, 20, 30)
		}
		one := laid(5, backends("b c", 1, 2), 0, 1, 1)
		expectSame(t, "one more at the front", one, laid(6, backends("a b c", 0, 1, 2), 1, 2, 2), 3, 0, 0)
		expectSame(t, "other names at the same points", one, laid(6, backends("b d", 1, 2), 0, 1, 1), 1, 0, 2)
		expectSame(t, "other owners of the same points", one, laid(6, backends("b c", 1, 2), 1, 0, 1), 0, 1, 2)
	}
}

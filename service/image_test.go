package service_test

import (
	"fmt"
	"math"
	"testing"

	"spread/api"
	"spread/service"
)

func hexed(s string, e api.Errno) string { return fmt.Sprintf("%x %v", s, e) }

// expectImage asks for an image in both formats.
func expectImage(t *testing.T, what string, s *service.Service, want picture) {
	t.Helper()
	for format := 1; format <= 2; format++ {
		if got := hexed(s.Image(format)); got != hexed(want.in(format).image(), api.OK) {
			t.Errorf("P8: %s: algorithm %d: Image(%d):\ngot  %s\nwant %s", what, want.c.Alg, format, got, hexed(want.in(format).image(), api.OK))
		}
	}
}

func TestExample8(t *testing.T) {
	s := pooled(t, api.Config{Alg: api.Maglev, Slots: 7, Points: 2, Probes: 3, Key: usualKey, Formats: 3}, backends("a", 1)...)
	for format, want := range map[int]string{
		1: "434801010000000100070203303132333435363738396162636465660101610100070000000000000000000000000000981dccc3 OK",
		2: "434802010000000100070203303132333435363738396162636465660101610100070069016f3d OK",
	} {
		if got := hexed(s.Image(format)); got != want {
			t.Errorf("P8: Image(%d): %s", format, got)
		}
	}
}

var wrongFormats = append([]int{257, 258, 1<<32 + 1, 1<<32 + 2}, anyNumbers...)

func TestWrongFormats(t *testing.T) {
	for _, alg := range algorithms {
		s := start(t, config(alg, 7))
		for _, published := range []bool{false, true} {
			for _, format := range wrongFormats {
				want := " ErrFormat"
				if format == 1 || format == 2 {
					want = " ErrNoTable"
				}
				if got := hexed(s.Image(format)); !(published && want == " ErrNoTable") && got != want {
					t.Errorf("P8: Image(%d), published: %v: %s", format, published, got)
				}
			}
			s.Add("a", 1)
		}
	}
}

func TestRefusedChangesPublishNoImage(t *testing.T) {
	s := start(t, config(api.Ring, 7))
	s.Add("", 1)
	s.Add("a", 7)
	s.Remove("a")
	s.Set("a", 1)
	s.Drop()
	if got := hexed(s.Image(1)); got != " ErrNoTable" {
		t.Errorf("P8: %s", got)
	}
}

var eight = backends("a b c d e f g h", 1, 2, 3, 4, 5, 6, 1, 2)

// somePools have each number of backends, names of 1 to MaxID bytes, and weights from 0 to MaxWeight.
var somePools = [][]api.Backend{
	backends("a", 1), backends("a", 6), backends("a", 0), backends("12345678", 3), backends("a b", 0, 0),
	eight[:2], eight[:3], eight[:4], eight[:5], eight[:6], eight[:7], eight,
	backends("h g f e d c b a", 6, 6, 6, 6, 6, 6, 6, 6), backends("a b c d e f g h", 0, 0, 0, 0, 0, 0, 0, 0),
	backends("a b c d e f g h", 0, 0, 0, 0, 0, 0, 0, 1), backends("a b c d e", 1, 0, 0, 0, 0),
	backends("12345678 1 1234567 123456 12", 1, 2, 3, 4, 5),
	{{ID: "\x00", Weight: 1}, {ID: "\x00\x00", Weight: 2}, {ID: "\xff", Weight: 3}, {ID: "\x80\xff\xff\xff\xff\xff\xff\xff", Weight: 1}, {ID: "\x7f", Weight: 1}},
}

var someConfigs = []api.Config{
	{Slots: 3, Points: 1, Probes: 1, Key: usualKey, Formats: 1},
	{Slots: 7, Points: 2, Probes: 3, Key: usualKey, Formats: 2},
	{Slots: 13, Points: 1, Probes: 2, Key: "\x00\xff\x80CHCP\x00\x00\x01abcde\x00", Formats: 3},
	{Slots: 211, Points: 3, Probes: 5, Key: usualKey, Formats: 3},
}

// forAll goes through algorithms, configurations and pools.
func forAll(f func(c api.Config, pool []api.Backend)) {
	for _, alg := range algorithms {
		for _, c := range someConfigs {
			c.Alg = alg
			for _, pool := range somePools {
				f(c, pool)
			}
		}
	}
}

func TestImages(t *testing.T) {
	forAll(func(c api.Config, pool []api.Backend) {
		s := start(t, c)
		for i, b := range pool {
			expect(t, "Add", s.Add(b.ID, b.Weight), api.OK)
			expectImage(t, fmt.Sprint(pool[:i+1]), s, drawn(c, i+1, pool[:i+1]...))
		}
		want := tell(s)
		s.Image(1)
		s.Image(2)
		s.Drop()
		expectTold(t, "P8: what is told behind Image", tell(s), want)
		expectImage(t, "asked again", s, drawn(c, len(pool), pool...))
	})
}

func TestImagesOfTheEmptyPool(t *testing.T) {
	for _, alg := range algorithms {
		s := pooled(t, config(alg, 7), backends("a", 1)...)
		expect(t, "Remove", s.Remove("a"), api.OK)
		expectImage(t, "no backends", s, drawn(config(alg, 7), 2))
		if got, _ := s.Image(2); got != sealed("CH\x02"+high(alg, 1)+"\x00\x00\x00\x02\x00\x07\x01\x01"+usualKey+"\x00\x00\x00") {
			t.Errorf("P8: %x", got)
		}
	}
}

// The names with equal points are those of equal_test.go.
func TestImagesOfEqualPoints(t *testing.T) {
	for _, c := range equalPoints {
		k := pointed(c.alg, 1, 1)
		pool := []api.Backend{{ID: c.names[1], Weight: c.copies[1] + 1}, {ID: c.names[0], Weight: c.copies[0] + 1}}
		expectImage(t, "equal points", pooled(t, k, pool...), drawn(k, 2, pool...))
	}
}

func TestGenerationsInImages(t *testing.T) {
	s := pooled(t, config(api.Rendezvous, 3), backends("a", 1)...)
	for gen := 2; gen <= 1<<16+2; gen++ {
		s.Set("a", gen%2)
		switch gen {
		case 255, 256, 257, 1<<16 - 1, 1 << 16, 1<<16 + 1:
			expectImage(t, fmt.Sprint("generation ", gen), s, drawn(config(api.Rendezvous, 3), gen, backends("a", gen%2)...))
		}
	}
}

// How many bits a place has.
func TestPlacesInBits(t *testing.T) {
	for n, width := range []int{1, 1, 1, 2, 2, 3, 3, 3, 3} {
		s := pooled(t, config(api.Maglev, 211), eight[:n]...)
		if n == 0 {
			continue
		}
		one, _ := s.Image(1)
		two, _ := s.Image(2)
		if got := len(one) - len(two); got != 2*211-(211*width+7)/8 {
			t.Errorf("P8: %d backends: %d bytes fewer", n, got)
		}
	}
}

func TestPointsInImagesAreWhole(t *testing.T) {
	p := drawn(config(api.Ring, 7), 1, backends("a", 2)...).pointedAt(0x0102030405060708, math.MaxUint64)
	first, second, gen, e := service.Decode(p.image())
	if want := "\x01\x02\x03\x04\x05\x06\x07\x08\x00\xff\xff\xff\xff\xff\xff\xff\xff\x00"; first != sealed(p.body()[:len(p.body())-18]+want) {
		t.Errorf("P8: %x", first)
	}
	if want := "\x01\x02\x03\x04\x05\x06\x07\x08\x7f\xff\xff\xff\xff\xff\xff\xff\x80"; second != sealed("CH\x02"+p.body()[3:len(p.body())-18]+want) || gen != 1 || e != api.OK {
		t.Errorf("P8: %x %d %v", second, gen, e)
	}
}

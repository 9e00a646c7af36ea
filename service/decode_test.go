package service_test

import (
	"fmt"
	"math"
	"strings"
	"testing"

	"spread/api"
	"spread/service"
)

func decoded(image string) string {
	first, second, gen, e := service.Decode(image)
	return fmt.Sprintf("%x %x %d %v", first, second, gen, e)
}

const noImage = "  0 ErrImage"

func expectNoImage(t *testing.T, what string, image string) {
	t.Helper()
	if got := decoded(image); got != noImage {
		t.Errorf("P8: %s: %x: %s", what, image, got)
	}
}

// expectReads wants a picture to read right in both formats.
func expectReads(t *testing.T, what string, p picture) {
	t.Helper()
	want := fmt.Sprintf("%x %x %d OK", p.in(1).image(), p.in(2).image(), p.gen)
	for format := 1; format <= 2; format++ {
		if got := decoded(p.in(format).image()); got != want {
			t.Errorf("P8: %s, format %d:\ngot  %s\nwant %s", what, format, got, want)
		}
	}
}

// expectWrong wants a picture not to read right, in both formats.
func expectWrong(t *testing.T, what string, p picture) {
	t.Helper()
	for format := 1; format <= 2; format++ {
		expectNoImage(t, fmt.Sprintf("%s, format %d", what, format), p.in(format).image())
	}
}

func TestDecodeOfImages(t *testing.T) {
	forAll(func(c api.Config, pool []api.Backend) {
		p := drawn(c, len(pool), pool...)
		expectReads(t, fmt.Sprint(pool), p)
		s := pooled(t, c, pool...)
		first, _ := s.Image(1)
		second, _ := s.Image(2)
		want := fmt.Sprintf("%x %x %d OK", first, second, s.Gen())
		if decoded(first) != want || decoded(second) != want {
			t.Errorf("P8: a service's images: %s, %s, want %s", decoded(first), decoded(second), want)
		}
	})
	expectReads(t, "no backends", drawn(config(api.Maglev, 3), 5))
	expectReads(t, "no backends", drawn(config(api.Ring, 3), 5))
}

// plain are right pictures of each algorithm: a owns nothing, b, c and d weigh 1, 2 and 3.
func plain(alg int) picture {
	return drawn(api.Config{Alg: alg, Slots: 7, Points: 2, Probes: 3, Key: usualKey}, 9, backends("a b c d", 0, 1, 2, 3)...)
}

// bare are right pictures of tables without entries, in which everything else can be wrong alone.
func bare(alg int) picture {
	return drawn(api.Config{Alg: alg, Slots: 7, Points: 2, Probes: 3, Key: usualKey}, 9, backends("a b", 0, 0)...)
}

func TestEntriesThatAreNotOfTheAlgorithm(t *testing.T) {
	for _, alg := range []int{api.Maglev, api.Rendezvous} {
		p := plain(alg)
		expectReads(t, "as they are", p)
		expectReads(t, "one owns all", p.owned(1, 1, 1, 1, 1, 1, 1))
		expectReads(t, "the last owns all", p.owned(3, 3, 3, 3, 3, 3, 3))
		expectReads(t, "falling", p.owned(3, 3, 3, 2, 2, 1, 1))
		expectReads(t, "other shares", p.owned(1, 2, 3, 1, 2, 3, 1))
	}
	for alg, places := range map[int][]int{api.Ring: {1, 1, 2, 2, 2, 2, 3, 3, 3, 3, 3, 3}, api.Probes: {1, 2, 2, 3, 3, 3}} {
		p := plain(alg).owned(places...)
		expectReads(t, "other owners", p)
		points := make([]uint64, len(places))
		expectReads(t, "all points 0", p.pointedAt(points...))
		for i := range points {
			points[i] = math.MaxUint64
		}
		expectReads(t, "all points the greatest", p.pointedAt(points...))
		for i := range points {
			points[i] = uint64(i)
		}
		expectReads(t, "small points", p.pointedAt(points...))
		points[0], points[len(points)-1] = 0, math.MaxUint64
		expectReads(t, "from the least point to the greatest", p.pointedAt(points...))
		points[1], points[2] = 1, 1
		expectReads(t, "two equal ones", p.pointedAt(points...))
	}
	ring := plain(api.Ring).owned(3, 3, 3, 1, 1, 3, 3, 3, 2, 2, 2, 2)
	expectReads(t, "places that fall between unequal points", ring)
}

func TestBeginnings(t *testing.T) {
	for _, alg := range algorithms {
		for _, begin := range []string{"CP", "ch", "HC", "\x00\x00", "CI", "DH", "C", "H", "", "CHH"} {
			for _, p := range []picture{plain(alg), bare(alg)} {
				p.begin = begin
				expectWrong(t, "beginning "+begin, p)
			}
		}
		for _, format := range []int{0, 3, 4, 17, 128, 129, 130, 255} {
			expectNoImage(t, fmt.Sprint("format ", format), plain(alg).in(format).image())
			expectNoImage(t, fmt.Sprint("format ", format), bare(alg).in(format).image())
		}
	}
}

func TestConfigurationsInImages(t *testing.T) {
	change := func(what string, right []int, wrong []int, f func(p *picture, n int)) {
		for _, alg := range algorithms {
			for _, n := range right {
				p := bare(alg)
				f(&p, n)
				expectReads(t, fmt.Sprint(what, " ", n), p)
			}
			for _, n := range wrong {
				p := bare(alg)
				f(&p, n)
				expectWrong(t, fmt.Sprint(what, " ", n), p)
			}
		}
	}
	change("algorithm", []int{1, 2, 3, 4}, []int{0, 5, 6, 128, 129, 255}, func(p *picture, n int) { p.c.Alg = n })
	change("slots", []int{3, 5, 7, 199, 211}, []int{0, 1, 2, 4, 6, 8, 9, 15, 25, 49, 121, 169, 209, 210, 212, 213, 223, 256 + 3, 257, 263, 512 + 7, 65521, 65535}, func(p *picture, n int) { p.c.Slots = n })
	change("points", []int{1, 2, 3}, []int{0, 4, 5, 128, 129, 255}, func(p *picture, n int) { p.c.Points = n })
	change("probes", []int{1, 2, 3, 4, 5}, []int{0, 6, 7, 128, 129, 255}, func(p *picture, n int) { p.c.Probes = n })
	change("generation", []int{1, 2, 255, 256, 1 << 16, 0x12345678, 1<<30 - 1, 1 << 30}, []int{0, 1<<30 + 1, 1<<30 + 256, 1 << 31, 1<<31 + 1, 1<<32 - 1}, func(p *picture, n int) { p.gen = n })
}

// The same with entries, as many as such a configuration would have.
func TestConfigurationsWithEntries(t *testing.T) {
	for _, slots := range []int{1, 2, 4, 9, 212, 223} {
		for _, alg := range algorithms {
			c := config(alg, slots)
			expectWrong(t, fmt.Sprint("slots ", slots), asMany(c, slots, 1))
		}
	}
	for _, alg := range algorithms {
		expectReads(t, "as many", asMany(config(alg, 5), 5, 1))
		c := config(alg, 5)
		c.Points = 3
		expectReads(t, "as many", asMany(c, 5, 3))
		c.Points = 4
		expectWrong(t, "4 points", asMany(c, 5, 4))
		c = config(alg, 5)
		c.Probes = 6
		expectWrong(t, "6 probes", asMany(c, 5, 1))
	}
	for _, alg := range []int{0, 5} {
		expectWrong(t, "no algorithm", asMany(config(alg, 5), 5, 1))
		p := asMany(config(alg, 5), 5, 1)
		p.count = 1
		p.list = p.list[:1]
		expectWrong(t, "no algorithm", p)
		p.count = 0
		p.list = nil
		expectWrong(t, "no algorithm", p)
	}
}

// asMany is a picture of one backend of weight 1, with as many entries as the algorithm asks for.
func asMany(c api.Config, slots int, points int) picture {
	p := picture{begin: "CH", format: 1, c: c, gen: 1, backends: backends("a", 1)}
	p.count = map[int]int{api.Ring: points, api.Probes: 1}[c.Alg]
	if !hasPoints(c.Alg) {
		p.count = slots
	}
	p.list = make([]laidEntry, p.count)
	return p
}

func TestGenerationsWithEntries(t *testing.T) {
	for _, alg := range algorithms {
		for gen, right := range map[int]bool{0: false, 1: true, 1 << 30: true, 1<<30 + 1: false, 1<<32 - 1: false} {
			p := plain(alg)
			p.gen = gen
			if right {
				expectReads(t, fmt.Sprint("generation ", gen), p)
			} else {
				expectWrong(t, fmt.Sprint("generation ", gen), p)
			}
		}
	}
}

func TestBackendsInImages(t *testing.T) {
	nine := strings.Repeat("x", 9)
	for _, c := range []struct {
		what     string
		right    bool
		backends []api.Backend
	}{
		{"none", true, nil},
		{"MaxPool", true, backends("a b c d e f g h", 0, 0, 0, 0, 0, 0, 0, 0)},
		{"one more", false, backends("a b c d e f g h i", 0, 0, 0, 0, 0, 0, 0, 0, 0)},
		{"twice as many", false, backends("a b c d e f g h i j k l m n o p", make([]int, 16)...)},
		{"a name of MaxID", true, backends("12345678", 0)},
		{"a longer name", false, backends("123456789", 0)},
		{"a longer name behind a right one", false, backends("a 123456789", 0, 0)[1:]},
		{"the last name is longer", false, backends("a b "+nine, 0, 0, 0)},
		{"a far longer name", false, backends(strings.Repeat("x", 255), 0)},
		{"no name", false, []api.Backend{{ID: ""}}},
		{"no name, and one", false, []api.Backend{{ID: ""}, {ID: "a"}}},
		{"names fall", false, backends("b a", 0, 0)},
		{"names fall at the end", false, backends("a c b", 0, 0, 0)},
		{"names fall at the beginning", false, backends("b a c", 0, 0, 0)},
		{"two alike", false, backends("a a", 0, 0)},
		{"two alike at the end", false, backends("a b b", 0, 0, 0)},
		{"two alike of MaxID bytes", false, backends("12345678 12345678", 0, 0)},
		{"the shorter first", true, backends("a aa", 0, 0)},
		{"the longer first", false, backends("aa a", 0, 0)},
		{"byte by byte", true, []api.Backend{{ID: "\x00"}, {ID: "\x00\x00"}, {ID: "\x7f"}, {ID: "\x80"}, {ID: "\xff"}}},
		{"as if bytes had signs", false, []api.Backend{{ID: "\x80"}, {ID: "\x7f"}}},
	} {
		for _, alg := range algorithms {
			p := bare(alg)
			p.backends = c.backends
			if c.right {
				expectReads(t, c.what, p)
			} else {
				expectWrong(t, c.what, p)
			}
		}
	}
}

// A backend too many, or one that weighs too much, with entries that would be right of such a pool.
func TestBackendsWithEntries(t *testing.T) {
	nine := backends("a b c d e f g h i", 1, 1, 1, 1, 1, 1, 1, 1, 1)
	for _, alg := range algorithms {
		c := config(alg, 7)
		expectReads(t, "MaxPool", drawn(c, 1, nine[:8]...))
		expectWrong(t, "one more", drawn(c, 1, nine...))
		for w, right := range map[int]bool{5: true, 6: true, 7: false, 8: false, 127: false, 128: false, 255: false} {
			for _, p := range []picture{drawn(c, 1, backends("a b", w, 1)...), drawn(c, 1, backends("a b", 1, w)...)} {
				if right {
					expectReads(t, fmt.Sprint("weight ", w), p)
				} else {
					expectWrong(t, fmt.Sprint("weight ", w), p)
				}
			}
		}
		expectWrong(t, "a name of nine bytes", drawn(c, 1, backends("123456789", 1)...))
		expectWrong(t, "no name", drawn(c, 1, api.Backend{ID: "", Weight: 1}))
		p := drawn(c, 1, backends("a b", 1, 1)...)
		p.backends[1].ID = "a"
		expectWrong(t, "two alike", p)
		p.backends[0].ID = "b"
		expectWrong(t, "names fall", p)
	}
}

func TestHowManyEntries(t *testing.T) {
	for _, alg := range []int{api.Maglev, api.Rendezvous} {
		p := plain(alg)
		expectWrong(t, "one fewer", p.owned(1, 1, 1, 1, 1, 1))
		expectWrong(t, "one more", p.owned(1, 1, 1, 1, 1, 1, 1, 1))
		expectWrong(t, "none", p.owned())
		expectWrong(t, "as many as points", p.owned(1, 1, 2, 2, 2, 2, 3, 3, 3, 3, 3, 3))
		expectWrong(t, "as many as the pool weighs", p.owned(1, 2, 2, 3, 3, 3))
		expectWrong(t, "entries of a pool without weight", bare(alg).owned(0, 0, 0, 0, 0, 0, 0))
		expectWrong(t, "one entry of a pool without weight", bare(alg).owned(0))
	}
	ring := plain(api.Ring)
	expectWrong(t, "one fewer", ring.owned(1, 1, 2, 2, 2, 2, 3, 3, 3, 3, 3))
	expectWrong(t, "one more", ring.pointedAt(0).owned(1, 1, 1, 2, 2, 2, 2, 3, 3, 3, 3, 3, 3).pointedAt(make([]uint64, 13)...))
	expectWrong(t, "as of probes", ring.owned(1, 2, 2, 3, 3, 3))
	expectWrong(t, "as of slots", ring.owned(1, 2, 2, 3, 3, 3, 3))
	expectWrong(t, "none", ring.owned())
	expectWrong(t, "a point of a pool without weight", bare(api.Ring).owned(0))
	expectWrong(t, "a point of no pool", drawn(config(api.Ring, 7), 1).owned(0))
	probes := plain(api.Probes)
	expectWrong(t, "one fewer", probes.owned(1, 2, 2, 3, 3))
	expectWrong(t, "one more", probes.owned(1, 2, 2, 3, 3, 3, 3).pointedAt(make([]uint64, 7)...))
	expectWrong(t, "as of the ring", probes.owned(1, 1, 2, 2, 2, 2, 3, 3, 3, 3, 3, 3).pointedAt(make([]uint64, 12)...))
	expectWrong(t, "none", probes.owned())
}

// What the image says of its entries, and the entries that it has, differ.
func TestEntriesThatAreNotThere(t *testing.T) {
	for _, alg := range algorithms {
		p := plain(alg)
		for _, said := range []int{p.count - 1, p.count + 1, 0, 1, 255, 256 + p.count, 65535} {
			q := p.copied()
			q.count = said
			expectWrong(t, fmt.Sprint("it says ", said), q)
			q = bare(alg)
			q.count = said
			if said > 0 {
				expectWrong(t, fmt.Sprint("it has none, and says ", said), q)
			}
		}
		for _, n := range []int{0, 1, p.count - 1} {
			q := p.copied()
			q.list = q.list[:n]
			expectWrong(t, fmt.Sprint("it has ", n), q)
		}
		q := p.copied()
		q.list = append(q.list, q.list[len(q.list)-1])
		expectNoImage(t, "one more than it says", q.in(1).image())
	}
}

func TestOwnersInImages(t *testing.T) {
	for _, alg := range []int{api.Maglev, api.Rendezvous} {
		p := plain(alg)
		three := drawn(config(alg, 7), 9, backends("a b c", 0, 1, 1)...)
		for i := range 7 {
			places := []int{1, 2, 3, 1, 2, 3, 1}
			places[i] = 0
			expectWrong(t, "an owner without weight", p.owned(places...))
			for _, place := range []int{4, 5, 255, 256, 257, 258, 512 + 1, 0x100 * 3, 65535} {
				places[i] = place
				expectNoImage(t, fmt.Sprint("an owner at place ", place), p.owned(places...).image())
			}
			places = []int{1, 2, 2, 1, 2, 2, 1}
			expectReads(t, "owners of three", three.owned(places...))
			places[i] = 3
			expectWrong(t, "the place behind the last", three.owned(places...))
		}
		one := drawn(config(alg, 7), 9, backends("a", 1)...)
		expectWrong(t, "the place behind the only one", one.owned(0, 0, 0, 0, 0, 0, 1))
	}
	for alg, places := range map[int][]int{api.Ring: {1, 1, 2, 2}, api.Probes: {1, 2}} {
		c := config(alg, 7)
		c.Points = 2
		p := drawn(c, 9, backends("a b c", 0, 1, 1)...).owned(places...)
		expectReads(t, "owners of three", p)
		for i := range places {
			for _, place := range []int{0, 3, 4, 128, 129, 130, 255} {
				other := append([]int{}, places...)
				other[i] = place
				expectNoImage(t, fmt.Sprint("an owner at place ", place), p.owned(other...).image())
				if place < 4 {
					expectWrong(t, fmt.Sprint("an owner at place ", place), p.owned(other...))
				}
			}
		}
	}
}

func TestPointsInImages(t *testing.T) {
	for _, alg := range []int{api.Ring, api.Probes} {
		c := config(alg, 7)
		p := drawn(c, 9, backends("a b c", 1, 0, 2)...)
		laid := func(a uint64, b uint64, d uint64, places ...int) picture {
			return p.owned(places...).pointedAt(a, b, d)
		}
		expectReads(t, "rising", laid(5, 6, 7, 0, 2, 2))
		expectReads(t, "rising, in any order of owners", laid(5, 6, 7, 2, 0, 2))
		expectReads(t, "all equal", laid(5, 5, 5, 0, 2, 2))
		expectReads(t, "two equal, of two owners", laid(5, 5, 7, 0, 2, 2))
		expectReads(t, "two equal, of one owner", laid(5, 5, 7, 2, 2, 0))
		expectReads(t, "by the highest bit", laid(1, 1<<63-1, 1<<63, 2, 2, 0))
		expectWrong(t, "equal ones whose places fall", laid(5, 5, 7, 2, 0, 2))
		expectWrong(t, "equal ones at the end whose places fall", laid(4, 5, 5, 2, 2, 0))
		expectWrong(t, "all equal, places fall", laid(5, 5, 5, 2, 2, 0))
		expectWrong(t, "all equal, places rise and fall", laid(5, 5, 5, 2, 0, 2))
		expectWrong(t, "falling at the beginning", laid(6, 5, 7, 0, 2, 2))
		expectWrong(t, "falling at the end", laid(5, 7, 6, 0, 2, 2))
		expectWrong(t, "falling by one", laid(1<<63, 1<<63+1, 1<<63, 0, 2, 2))
		expectWrong(t, "falling in the high half", laid(1<<32, 1, 1<<33, 0, 2, 2))
		expectWrong(t, "as if points had signs", laid(1<<63, 1, 2, 0, 2, 2))
		expectWrong(t, "the first is the last", laid(5, 6, 0, 0, 2, 2))
	}
}

func TestHowManyPointsEachOwns(t *testing.T) {
	for alg, each := range map[int]int{api.Ring: 3, api.Probes: 1} {
		c := config(alg, 7)
		c.Points = 3
		for _, n := range [][2]int{{1, 2}, {2, 1}, {1, 1}} {
			p := drawn(c, 9, backends("a b", n[0], n[1])...)
			for own := range len(p.list) + 1 {
				places := make([]int, len(p.list))
				for i := own; i < len(places); i++ {
					places[i] = 1
				}
				if own == each*n[0] {
					expectReads(t, "as many as it weighs", p.owned(places...))
				} else {
					expectWrong(t, fmt.Sprint("not as many as it weighs: ", own), p.owned(places...))
				}
			}
		}
	}
}

func TestSomethingBehind(t *testing.T) {
	for _, alg := range algorithms {
		for _, pool := range somePools {
			p := drawn(config(alg, 7), 1, pool...)
			for _, behind := range []string{"\x00", "\x01", "\xff", "\x00\x00", "\x80", "CH", strings.Repeat("\x00", 1000)} {
				p.behind = behind
				expectWrong(t, fmt.Sprintf("%x behind", behind), p)
			}
			p.behind = ""
			expectNoImage(t, "sealed twice", sealed(p.image()))
			expectNoImage(t, "two images", p.image()+p.image())
			expectNoImage(t, "two images, sealed", sealed(p.body()+p.body()))
		}
	}
}

func TestUnusedBits(t *testing.T) {
	tried := 0
	for _, alg := range algorithms {
		for _, slots := range []int{3, 5, 7, 11, 13, 211} {
			for _, pool := range somePools {
				p := drawn(config(alg, slots), 1, pool...)
				width := placeWidth(len(pool))
				if hasPoints(alg) {
					width += 64
				}
				for bit := 0; bit < (8-width*p.count%8)%8; bit++ {
					body := []byte(p.in(2).body())
					body[len(body)-1] |= 1 << bit
					expectNoImage(t, fmt.Sprint("an unused bit ", bit), sealed(string(body)))
					tried++
				}
			}
		}
	}
	if tried < 500 {
		t.Errorf("%d unused bits", tried)
	}
}

// somePictures are a few right ones of each algorithm, in both formats.
func somePictures() []picture {
	var l []picture
	for _, alg := range algorithms {
		c := api.Config{Alg: alg, Slots: 7, Points: 2, Probes: 3, Key: usualKey}
		for _, pool := range [][]api.Backend{nil, backends("a", 1), backends("a bb ccc", 0, 2, 1), backends("a b", 0, 0), eight} {
			for format := 1; format <= 2; format++ {
				l = append(l, drawn(c, 258, pool...).in(format))
			}
		}
	}
	return l
}

func TestCutImages(t *testing.T) {
	expectNoImage(t, "the empty one", "")
	expectNoImage(t, "a sum alone", "\x00\x00\x00\x00")
	for _, p := range somePictures() {
		expectReads(t, "the whole", p)
		image, body := p.image(), p.body()
		for n := range image {
			expectNoImage(t, fmt.Sprint("cut to ", n), image[:n])
			expectNoImage(t, fmt.Sprint("begun at ", n+1), image[n+1:])
		}
		for n := range body {
			expectNoImage(t, fmt.Sprint("cut to ", n, " and sealed"), sealed(body[:n]))
			expectNoImage(t, fmt.Sprint("without byte ", n, " and sealed"), sealed(body[:n]+body[n+1:]))
		}
	}
}

func TestSealsOfImages(t *testing.T) {
	for _, p := range somePictures() {
		image := p.image()
		for i := range image {
			for bit := range 8 {
				bent := []byte(image)
				bent[i] ^= 1 << bit
				expectNoImage(t, fmt.Sprint("a bent bit of byte ", i), string(bent))
			}
		}
		sum := image[len(image)-4:]
		turned := string([]byte{sum[3], sum[2], sum[1], sum[0]})
		expectNoImage(t, "the sum's high byte first", p.body()+turned)
		expectNoImage(t, "no sum", p.body())
		expectNoImage(t, "the sum of nothing", p.body()+"\x00\x00\x00\x00")
		expectNoImage(t, "the sum of another", p.body()+plain(api.Ring).image()[:4])
	}
}

// Bent images with right sums: whether each reads right, and what it says, is what the tests' own reader finds.
func TestBentImages(t *testing.T) {
	right := 0
	for _, p := range somePictures() {
		body := p.body()
		for i := range body {
			for _, x := range []byte{1, 2, 3, 4, 5, 6, 7, 8, 16, 32, 64, 128, 255} {
				bent := []byte(body)
				bent[i] ^= x
				image := sealed(string(bent))
				want := noImage
				if q, ok := read(image); ok {
					right++
					want = fmt.Sprintf("%x %x %d OK", q.in(1).image(), q.in(2).image(), q.gen)
				}
				if got := decoded(image); got != want {
					t.Errorf("P8: byte %d bent by %d: %x:\ngot  %s\nwant %s", i, x, image, got, want)
				}
			}
		}
	}
	if right < 1000 {
		t.Errorf("%d of them read right", right)
	}
}

package service_test

import (
	"fmt"
	"strings"
	"testing"

	"spread/api"
	"spread/service"
)

// A near is a service that publishes, with what the tests know of it.
type near struct {
	t      *testing.T
	s      *service.Service
	c      api.Config
	gen    int
	images [3]string // by formats
}

func publishing(t *testing.T, c api.Config, pool ...api.Backend) near {
	t.Helper()
	p := drawn(c, len(pool), pool...)
	return near{t, pooled(t, c, pool...), c, len(pool), [3]string{"", p.image(), p.in(2).image()}}
}

func (n near) answers(what string, frame string, want string) {
	n.t.Helper()
	if got := n.s.Serve(frame); got != want {
		n.t.Errorf("P11: %s: formats %d, generation %d: Serve(%x):\ngot  %x\nwant %x", what, n.c.Formats, n.gen, frame, got, want)
	}
}

// piece is what is to be answered by a piece.
func (n near) piece(format int, number int) string {
	l := cutUp(n.images[format], api.Chunk)
	return piece{n.gen, format, len(l), number, l[number]}.frame()
}

func (n near) counts(what string, first int, second int) {
	n.t.Helper()
	if a, b := len(cutUp(n.images[1], api.Chunk)), len(cutUp(n.images[2], api.Chunk)); a != first || b != second {
		n.t.Fatalf("%s: %d and %d pieces", what, a, b)
	}
}

func spoken(alg int, slots int, formats int) api.Config {
	c := config(alg, slots)
	c.Formats = formats
	return c
}

// rings have four pieces in either format, of a service that speaks these formats.
func rings(t *testing.T, formats int) near {
	t.Helper()
	n := publishing(t, spoken(api.Ring, 7, formats), backends("a b c", 4, 3, 6)...)
	n.counts("a ring", 4, 4)
	return n
}

func TestFramesThatAreNoQuestion(t *testing.T) {
	n := rings(t, 3)
	right := question{formats: 3}
	n.answers("a right one", right.frame(), n.piece(2, 0))
	b := right.body()
	for what, body := range map[string]string{
		"12 bytes": b[:12], "14 bytes": b + "\x00", "another at the end": b + "x", "the letter alone": "Q", "twice": b + b, "26 bytes": b + b[:13],
		"a letter too many": "Q" + b, "another letter": "R" + b[1:], "a small letter": "q" + b[1:], "A": "A" + b[1:], "a nought": "\x00" + b[1:],
		"an answer": "A\x00", "a piece": piece{3, 2, 4, 0, "x"}.body(), "a piece of 13 bytes": piece{3, 2, 4, 0, "xx"}.body(), "letter at the end": b[1:] + "Q",
		"an image": n.images[1], "very long": b + strings.Repeat("\x00", 1<<18), "256 more": b + strings.Repeat("\x00", 256),
	} {
		n.answers(what, sealed(body), "")
	}
	for size := range 40 {
		if size != 13 {
			n.answers(fmt.Sprint(size, " bytes"), sealed((b + strings.Repeat("\x00", 40))[:size]), "")
		}
	}
	for _, text := range anyTexts {
		n.answers("any text", text, "")
	}
}

func TestQuestionsThatAreNotSealed(t *testing.T) {
	n := rings(t, 3)
	for _, q := range []question{{formats: 3}, {2, 1, 3, 1, 2}, {3, 3, 0, 0, 0}, {1 << 31, 255, 1<<32 - 1, 255, 65535}} {
		right := q.frame()
		if n.s.Serve(right) == "" {
			t.Errorf("P11: no answer to %x", right)
		}
		n.answers("no sum", q.body(), "")
		n.answers("a sum and another", sealed(right), "")
		n.answers("the high byte of the sum first", q.body()+right[16:]+right[15:16]+right[14:15]+right[13:14], "")
		n.answers("the sum ahead", right[13:]+q.body(), "")
		n.answers("the sum of a longer text", q.body()+sealed(q.body() + "\x00")[14:], "")
		for i := range right {
			n.answers("cut", right[:i], "")
			n.answers("cut ahead", right[i+1:], "")
			for bit := range 8 {
				bent := []byte(right)
				bent[i] ^= 1 << bit
				n.answers("bent", string(bent), "")
			}
		}
	}
}

// All pairs of formats; those that are none count by their bits.
func TestCommonFormats(t *testing.T) {
	for formats := 1; formats <= 3; formats++ {
		n := rings(t, formats)
		for asked := range 256 {
			q := question{formats: asked}
			want := map[int]string{0: noFormat, 1: n.piece(1, 0), 2: n.piece(2, 0), 3: n.piece(2, 0)}[asked&formats]
			n.answers("holds nothing", q.frame(), want)
			q = question{2, asked, 3, 1, 1}
			want = map[int]string{0: noFormat, 1: n.piece(1, 1), 2: n.piece(2, 1), 3: n.piece(1, 1)}[asked&formats]
			n.answers("coming in format 1", q.frame(), want)
			q = question{2, asked, 3, 2, 1}
			want = map[int]string{0: noFormat, 1: n.piece(1, 1), 2: n.piece(2, 1), 3: n.piece(2, 1)}[asked&formats]
			n.answers("coming in format 2", q.frame(), want)
			q = question{held: 3, formats: asked}
			want = map[bool]string{true: noFormat, false: noNews}[asked&formats == 0]
			n.answers("holds what is published", q.frame(), want)
		}
	}
}

// No common format goes ahead of nothing published, and that ahead of everything else.
func TestNothingPublished(t *testing.T) {
	for formats := 1; formats <= 3; formats++ {
		n := near{t, start(t, spoken(api.Ring, 7, formats)), spoken(api.Ring, 7, formats), 0, [3]string{}}
		for asked := range 256 {
			want := map[bool]string{true: noFormat, false: noNews}[asked&formats == 0]
			for _, gen := range []int{0, 1, 2, 1<<32 - 1} {
				for _, coming := range []int{0, 1, 1<<32 - 1} {
					n.answers("nothing is published", question{gen, asked, coming, 1, 0}.frame(), want)
				}
			}
		}
		n.s.Add("", 1)
		n.s.Add("a", 7)
		n.s.Remove("a")
		n.answers("refused changes", question{formats: 3}.frame(), noNews)
	}
}

func TestGenerationHeld(t *testing.T) {
	n := rings(t, 3)
	for _, held := range []int{0, 1, 2, 4, 5, 255, 256 + 3, 1<<24 + 3, 1<<30 + 1, 1<<31 + 3, 1<<32 - 1} {
		n.answers("another is held", question{held: held, formats: 3}.frame(), n.piece(2, 0))
		n.answers("another is held", question{held: held, formats: 1}.frame(), n.piece(1, 0))
		n.answers("another is held, the one published coming", question{held, 3, 3, 1, 3}.frame(), n.piece(1, 3))
	}
	for _, coming := range []int{0, 2, 3, 4} {
		n.answers("it is held", question{3, 3, coming, 1, 1}.frame(), noNews)
		n.answers("it is held", question{3, 2, coming, 2, 0}.frame(), noNews)
	}
}

func TestGenerationComing(t *testing.T) {
	n := rings(t, 3)
	for _, format := range []int{0, 1, 2, 3, 4, 5, 128, 129, 255} {
		for _, coming := range []int{0, 1, 2, 4, 256 + 3, 1<<31 + 3, 1<<32 - 1} {
			for _, missing := range []int{0, 1, 3, 4, 65535} {
				n.answers("another is coming", question{0, 3, coming, format, missing}.frame(), n.piece(2, 0))
				n.answers("another is coming", question{2, 1, coming, format, missing}.frame(), n.piece(1, 0))
				n.answers("another is coming", question{9, 2, coming, format, missing}.frame(), n.piece(2, 0))
			}
		}
		for missing := range 4 {
			both := 2
			if format == 1 {
				both = 1
			}
			n.answers("it is coming", question{0, 3, 3, format, missing}.frame(), n.piece(both, missing))
			n.answers("it is coming", question{2, 1, 3, format, missing}.frame(), n.piece(1, missing))
			n.answers("it is coming", question{9, 2, 3, format, missing}.frame(), n.piece(2, missing))
		}
		for _, missing := range []int{4, 5, 6, 47, 48, 255, 256, 257, 32768, 65535} {
			both := 2
			if format == 1 {
				both = 1
			}
			n.answers("no such piece", question{0, 3, 3, format, missing}.frame(), n.piece(both, 0))
			n.answers("no such piece", question{2, 1, 3, format, missing}.frame(), n.piece(1, 0))
			n.answers("no such piece", question{9, 2, 3, format, missing}.frame(), n.piece(2, 0))
		}
	}
}

// The two formats have two numbers of pieces: a piece is looked for in the format that is answered.
func TestPiecesOfTwoFormats(t *testing.T) {
	for formats := 1; formats <= 3; formats++ {
		n := publishing(t, spoken(api.Maglev, 31, formats), backends("a b", 1, 2)...)
		n.counts("slots", 3, 1)
		for missing := range 4 {
			first := n.piece(1, map[int]int{0: 0, 1: 1, 2: 2}[missing])
			for format := range 4 {
				if formats&1 > 0 {
					n.answers("format 1", question{1, 1, 2, format, missing}.frame(), first)
				}
				if formats&2 > 0 {
					n.answers("format 2", question{1, 2, 2, format, missing}.frame(), n.piece(2, 0))
				}
			}
			if formats == 3 {
				n.answers("both, format 1 coming", question{1, 3, 2, 1, missing}.frame(), first)
				n.answers("both, format 2 coming", question{1, 3, 2, 2, missing}.frame(), n.piece(2, 0))
			}
		}
	}
}

var longest = backends("aaaaaaaa bbbbbbbb cccccccc dddddddd eeeeeeee ffffffff gggggggg hhhhhhhh", 6, 6, 6, 6, 6, 6, 6, 6)

func TestSizesOfPieces(t *testing.T) {
	for _, c := range []struct {
		what          string
		c             api.Config
		pool          []api.Backend
		format        int
		pieces, bytes int // of the last one
	}{
		{"one piece", config(api.Maglev, 3), backends("a", 1), 1, 1, 44},
		{"one piece that is full", config(api.Maglev, 17), backends("12345678", 1), 2, 1, 48},
		{"a byte behind it", config(api.Maglev, 29), backends("12345678", 1), 2, 2, 1},
		{"a byte fewer", config(api.Maglev, 17), backends("1234567", 1), 2, 1, 47},
		{"two that are full", config(api.Maglev, 29), backends("a", 1), 1, 2, 48},
		{"a byte behind them", config(api.Maglev, 29), backends("ab", 1), 1, 3, 1},
		{"no entries", config(api.Probes, 29), backends("a", 0), 1, 1, 38},
		{"many slots", config(api.Maglev, 211), eight, 1, 11, 1},
		{"the longest image of all", pointed(api.Ring, 3, 1), longest, 1, 30, 19},
		{"the same in format 2", pointed(api.Ring, 3, 1), longest, 2, 28, 25},
	} {
		n := publishing(t, c.c, c.pool...)
		l := cutUp(n.images[c.format], api.Chunk)
		if len(l) != c.pieces || len(l[len(l)-1]) != c.bytes {
			t.Errorf("%s: %d pieces, the last one of %d bytes", c.what, len(l), len(l[len(l)-1]))
			continue
		}
		for i, bytes := range l {
			want := "A\x01" + high(n.gen, 4) + high(c.format, 1) + high(len(l), 2) + high(i, 2) + bytes
			n.answers(c.what, question{0, c.format, n.gen, c.format, i}.frame(), sealed(want))
		}
		n.answers(c.what, question{0, c.format, n.gen, c.format, len(l)}.frame(), n.piece(c.format, 0))
	}
}

// Every answer of many services beside the model.
func TestServeBesideTheModel(t *testing.T) {
	for i, pool := range somePools {
		for _, c := range someConfigs {
			c.Alg = algorithms[i%4]
			n := publishing(t, c, pool...)
			for _, formats := range []int{0, 1, 2, 3, 4, 6, 253, 255} {
				for _, held := range []int{0, n.gen - 1, n.gen, n.gen + 1} {
					for _, coming := range []int{0, n.gen - 1, n.gen, n.gen + 1} {
						for format := range 4 {
							for _, missing := range []int{0, 1, 2, 7, 29, 30, 256} {
								q := question{held, formats, coming, format, missing}.frame()
								if (held+coming+format+missing+i)%3 == 0 {
									n.answers("beside the model", q, modelServe(c.Formats, n.gen, n.images, q))
								}
							}
						}
					}
				}
			}
		}
	}
}

// The latest image is the one that is served, and serving changes nothing.
func TestServeOfLaterTables(t *testing.T) {
	c := config(api.Rendezvous, 13)
	s := start(t, c)
	var pool []api.Backend
	for i, b := range backends("c a d b", 3, 0, 6, 1) {
		expect(t, "Add", s.Add(b.ID, b.Weight), api.OK)
		pool = append(pool, b)
		p := drawn(c, i+1, pool...)
		n := near{t, s, c, i + 1, [3]string{"", p.image(), p.in(2).image()}}
		want := tell(s)
		for range 2 {
			n.answers("a later table", question{held: i, formats: 3}.frame(), n.piece(2, 0))
			n.answers("a later table, an earlier one coming", question{0, 1, i, 1, 1}.frame(), n.piece(1, 0))
			n.answers("a later table, coming", question{0, 1, i + 1, 1, 1}.frame(), n.piece(1, 1))
			s.Drop()
		}
		s.Add(b.ID, b.Weight)
		n.answers("a refused change", question{held: i + 1, formats: 3}.frame(), noNews)
		expectTold(t, "P11: what is told behind Serve", tell(s), want)
	}
}

// The same table again is another generation.
func TestServeOfTheSameTable(t *testing.T) {
	n := publishing(t, config(api.Ring, 7), backends("a b", 1, 2)...)
	expect(t, "Set", n.s.Set("b", 2), api.OK)
	p := drawn(n.c, 3, backends("a b", 1, 2)...).in(2)
	n.answers("set as it was", question{held: 2, formats: 2}.frame(), p.pieces()[0].frame())
	n.answers("set as it was", question{held: 3, formats: 2}.frame(), noNews)
}

// A service answers whoever asks: dataplanes of its own or not.
func TestServeWithoutDataplanes(t *testing.T) {
	n := rings(t, 3)
	f := join(t, start(t, config(api.Maglev, 3)), 3)
	for i := range 4 {
		frame, _ := f.s.Tick(f.d)
		n.answers("another service's dataplane", frame, n.piece(2, i))
		f.takes(n.piece(2, i))
	}
	f.looksUp("another service's table", drawn(n.c, 3, backends("a b c", 4, 3, 6)...))
	frame, _ := f.s.Tick(f.d)
	n.answers("another service's dataplane", frame, noNews)
	if f.s.Gen() != 0 || n.s.Gen() != 3 {
		t.Error("P11: generations")
	}
}

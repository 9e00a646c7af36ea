package service_test

import (
	"fmt"
	"strings"
	"testing"

	"spread/api"
)

// A standing is a dataplane with formats 3 at some point: what it holds, what is coming, what it has been told.
type standing struct {
	what string
	f    far
	q    question
	told api.Errno
}

// later is a picture of that generation, whose images are of several pieces.
func later(gen int) picture {
	p := plain(api.Ring)
	p.gen = gen
	return p
}

// standings are of all kinds: generation 20 or nothing held; generation 30 coming in either format, at any piece, or nothing; told or not.
func standings(t *testing.T) []standing {
	t.Helper()
	var l []standing
	for _, held := range []int{0, 20} {
		for _, format := range []int{0, 1, 2} {
			for _, told := range []api.Errno{api.OK, api.ErrFormat} {
				s := standing{fmt.Sprint(held, " held, coming in format ", format, ", told ", told), joined(t, 3), question{held: held, formats: 3}, told}
				if held > 0 {
					s.f.fetches(later(held))
				}
				if format > 0 {
					coming := later(30).in(format).pieces()
					s.f.takesPieces(coming[0], coming[2])
					s.q = question{held, 3, 30, format, 1}
				}
				if told != api.OK {
					s.f.takes(noFormat)
				}
				s.stays("to begin with")
				l = append(l, s)
			}
		}
	}
	return l
}

// stays wants a dataplane to stand as it stood.
func (s standing) stays(what string) {
	s.f.t.Helper()
	s.f.stands(s.what+": "+what, s.q, s.told)
	if s.q.held > 0 {
		s.f.looksUp(s.what+": "+what, later(s.q.held))
	} else {
		s.f.looksUpNothing(s.what + ": " + what)
	}
}

// doesNothing wants a frame to change nothing, wherever a dataplane stands.
func doesNothing(t *testing.T, l []standing, what string, frame string) {
	t.Helper()
	for _, s := range l {
		before := s.f.toldBy()
		s.f.takes(frame)
		if after := s.f.toldBy(); after != before {
			t.Errorf("P12: %s: %s: %x: got %s, want %s", s.what, what, frame, after, before)
		}
	}
}

// goesOn wants what is coming to end as if nothing had happened: no piece was lost, laid or changed.
func goesOn(t *testing.T, l []standing) {
	t.Helper()
	for _, s := range l {
		s.stays("at last")
		if s.q.coming > 0 {
			p := later(30).in(s.q.format)
			all := p.pieces()
			s.f.takesPieces(all[1])
			s.f.takesPieces(all[3:]...)
			s.f.stands(s.what+": the rest", question{held: 30, formats: 3}, api.OK)
			s.f.looksUp(s.what+": the rest", p)
		}
	}
}

// useful are frames that would do something: the next piece, one of a later generation, and what is to be told.
func useful() []string {
	var l []string
	for format := 1; format <= 2; format++ {
		l = append(l, later(30).in(format).pieces()[1].frame(), later(31).in(format).pieces()[0].frame())
	}
	return append(l, noNews, noFormat)
}

func TestAnswersThatAreNotSealed(t *testing.T) {
	l := standings(t)
	for _, right := range useful() {
		body, sum := right[:len(right)-4], right[len(right)-4:]
		doesNothing(t, l, "no sum", body)
		doesNothing(t, l, "the high byte of the sum first", body+sum[3:]+sum[2:3]+sum[1:2]+sum[:1])
		doesNothing(t, l, "the sum ahead", sum+body)
		doesNothing(t, l, "the sum alone", sum)
		doesNothing(t, l, "a byte behind", right+"\x00")
		doesNothing(t, l, "a byte ahead", "A"+right)
		for i := range right {
			doesNothing(t, l[:4], "cut", right[:i])
			bent := []byte(right)
			bent[i] ^= 1 << (i % 8)
			doesNothing(t, l, "bent", string(bent))
		}
	}
	for _, text := range anyTexts {
		doesNothing(t, l, "any text", text)
	}
	doesNothing(t, l, "the sum of no text", sealed(""))
	goesOn(t, l)
}

func TestFramesThatAreNoAnswer(t *testing.T) {
	l := standings(t)
	whole := later(31).in(2).pieces()[0]
	for what, body := range map[string]string{
		"the letter alone": "A", "another letter": "B\x00", "a small letter": "a\x02", "no letter": "\x00\x02", "a question's letter": "Q\x02",
		"the kind alone": "\x00", "the kind first": "\x00A", "told nothing, and more": "A\x00\x00", "told nothing, and a piece": "A\x00" + whole.body()[2:],
		"no format, and more": "A\x02\x00", "no format, and a piece": "A\x02" + whole.body()[2:], "a piece that is none": "A\x01",
		"a piece of another letter": "B" + whole.body()[1:], "a piece of a question": "Q" + whole.body()[1:], "a small letter's piece": "a" + whole.body()[1:],
		"a question": question{formats: 3}.body(), "a question of what is coming": question{20, 3, 30, 2, 1}.body(),
		"an image": later(31).body(), "twice told": "A\x00A\x00", "very long": whole.body() + strings.Repeat("\x00", 1<<17),
	} {
		doesNothing(t, l, what, sealed(body))
	}
	for kind := 3; kind < 256; kind++ {
		doesNothing(t, l, "another kind", sealed("A"+high(kind, 1)))
		doesNothing(t, l, "another kind with a piece", sealed("A"+high(kind, 1)+whole.body()[2:]))
	}
	for _, p := range []piece{later(30).in(1).pieces()[1], later(30).in(2).pieces()[1], whole} {
		for size := range len(p.body()) - len(p.bytes) + 1 {
			doesNothing(t, l, fmt.Sprint("the first ", size, " bytes"), sealed(p.body()[:size]))
		}
		p.bytes = ""
		doesNothing(t, l, "no bytes of a piece", p.frame())
		for _, size := range []int{49, 50, 59, 96, 255, 256, 257, 256 + 48, 65535, 65536 + 48} {
			p.bytes = strings.Repeat("x", size)
			doesNothing(t, l, fmt.Sprint(size, " bytes of a piece"), p.frame())
		}
	}
	goesOn(t, l)
}

// A piece of 1 to Chunk bytes is one, wherever it stands.
func TestSizesThatArePieces(t *testing.T) {
	for size := 1; size <= api.Chunk; size++ {
		f := joined(t, 1)
		f.takesPieces(piece{1, 1, 2, 1, strings.Repeat("x", size)})
		f.stands(fmt.Sprint(size, " bytes"), question{0, 1, 1, 1, 0}, api.OK)
		p := later(7).in(1)
		f.takesPieces(p.piecesOf(size)...)
		f.stands(fmt.Sprint(size, " bytes each"), question{held: 7, formats: 1}, api.OK)
		f.looksUp(fmt.Sprint(size, " bytes each"), p)
	}
	// Of pieces of unequal sizes too.
	f := joined(t, 1)
	image := later(7).image()
	f.takesPieces(piece{7, 1, 5, 0, image[:1]}, piece{7, 1, 5, 2, image[49:52]}, piece{7, 1, 5, 1, image[1:49]}, piece{7, 1, 5, 4, image[100:]}, piece{7, 1, 5, 3, image[52:100]})
	f.stands("a piece that is too long", question{0, 1, 7, 1, 4}, api.OK)
	f = joined(t, 1)
	rest := cutUp(image[100:], api.Chunk)
	n := 4 + len(rest)
	f.takesPieces(piece{7, 1, n, 0, image[:1]}, piece{7, 1, n, 2, image[49:52]}, piece{7, 1, n, 1, image[1:49]}, piece{7, 1, n, 3, image[52:100]})
	for i, bytes := range rest {
		f.takesPieces(piece{7, 1, n, 4 + i, bytes})
	}
	f.stands("unequal sizes", question{held: 7, formats: 1}, api.OK)
	f.looksUp("unequal sizes", later(7))
}

func TestGenerationsThatAreNotAbove(t *testing.T) {
	for _, format := range []int{1, 2} {
		l := standings(t)
		for _, gen := range []int{0, 1, 19, 20, 29} {
			for _, p := range later(gen).in(format).pieces() {
				for _, s := range l {
					if gen <= s.q.held || gen < s.q.coming {
						doesNothing(t, []standing{s}, fmt.Sprint("generation ", gen), p.frame())
					}
				}
			}
			whole := later(gen).in(format)
			one := piece{gen, format, 1, 0, whole.image()[:20]}
			for _, s := range l {
				if gen <= s.q.held || gen < s.q.coming {
					doesNothing(t, []standing{s}, fmt.Sprint("one piece of generation ", gen), one.frame())
				}
			}
		}
		goesOn(t, l)
	}
}

// A table that is held is not replaced by another of its generation, nor by an earlier one.
func TestHeldGenerationStays(t *testing.T) {
	for _, alg := range algorithms {
		f := joined(t, 3)
		p := later(20)
		f.fetches(p)
		for _, gen := range []int{20, 19, 1} {
			q := plain(alg)
			q.gen = gen
			f.fetches(q)
			f.fetches(q.in(2))
			f.stands("an earlier table", question{held: 20, formats: 3}, api.OK)
			f.looksUp("an earlier table", p)
		}
		q := plain(alg)
		q.gen = 21
		f.fetches(q.in(2))
		f.stands("the next", question{held: 21, formats: 3}, api.OK)
		f.looksUp("the next", q)
		q.gen = api.MaxGen
		f.fetches(q)
		f.stands("the last of all", question{held: api.MaxGen, formats: 3}, api.OK)
		q.gen = 22
		f.fetches(q)
		f.stands("behind the last of all", question{held: api.MaxGen, formats: 3}, api.OK)
	}
}

func TestNumbersOfPieces(t *testing.T) {
	l := standings(t)
	for _, gen := range []int{30, 31} {
		for format := 1; format <= 2; format++ {
			all := len(later(gen).in(format).pieces())
			for _, c := range [][2]int{{0, 0}, {0, 1}, {0, 65535}, {1, 1}, {1, 2}, {all, all}, {all, all + 1}, {all, 65535}, {65535, 65535}, {256, 256}, {255, 256}, {32768, 32768}} {
				doesNothing(t, l, fmt.Sprint("number ", c[1], " of ", c[0]), piece{gen, format, c[0], c[1], "x"}.frame())
			}
		}
	}
	goesOn(t, l)
}

// All pairs of a dataplane's formats and a piece's: any other number than 1 and 2 counts by its bits.
func TestFormatsOfPieces(t *testing.T) {
	for formats := 1; formats <= 3; formats++ {
		for format := range 256 {
			f := joined(t, formats)
			f.takes(noFormat, piece{5, format, 2, 0, "x"}.frame())
			if format&formats == 0 {
				f.stands("a format that it does not speak", question{formats: formats}, api.ErrFormat)
			} else {
				f.stands("a format by its bits", question{0, formats, 5, format, 1}, api.OK)
			}
			f.looksUpNothing("one piece")
		}
	}
	l := standings(t)
	for _, format := range []int{0, 4, 8, 12, 128, 252} {
		for _, gen := range []int{30, 31} {
			doesNothing(t, l, fmt.Sprint("format ", format), piece{gen, format, 4, 1, "x"}.frame())
			doesNothing(t, l, fmt.Sprint("format ", format), piece{gen, format, 1, 0, "x"}.frame())
		}
	}
	goesOn(t, l)
}

// A format that both have bits of is none of an image, even if its image says so itself.
func TestFormatsThatAreNoFormats(t *testing.T) {
	for _, format := range []int{3, 5, 6, 7, 255} {
		f := joined(t, 3)
		f.fetches(later(20))
		p := later(30).in(format)
		l := p.pieces()
		for i, x := range l {
			f.takesPieces(x)
			if i+1 < len(l) {
				f.stands("coming in no format", question{20, 3, 30, format, i + 1}, api.OK)
			}
		}
		f.stands("no format", question{held: 20, formats: 3}, api.OK)
		f.looksUp("no format", later(20))
	}
}

// A piece in another format or of another number of pieces than what is coming does nothing: it is told nothing anew, either.
func TestTwoFormatsOrNumbers(t *testing.T) {
	for format := 1; format <= 2; format++ {
		var l []standing
		for _, s := range standings(t) {
			if s.q.coming > 0 && s.q.format == format {
				l = append(l, s)
			}
		}
		all := later(30).in(format).pieces()
		n := len(all)
		for _, p := range later(30).in(3 - format).pieces() {
			doesNothing(t, l, "another format", p.frame())
			p.pieces = n
			doesNothing(t, l, "another format of as many pieces", p.frame())
		}
		for _, other := range []int{3, 5, 6, 7, 255} {
			doesNothing(t, l, "no format", piece{30, other, n, 1, all[1].bytes}.frame())
		}
		for _, pieces := range []int{2, n - 1, n + 1, 256 + n, 65535} {
			doesNothing(t, l, fmt.Sprint("of ", pieces, " pieces"), piece{30, format, pieces, 1, all[1].bytes}.frame())
		}
		doesNothing(t, l, "of one piece", piece{30, format, 1, 0, "x"}.frame())
		goesOn(t, l)
	}
}

func TestPiecesInAnyOrder(t *testing.T) {
	p := plain(api.Ring)
	for format := 1; format <= 2; format++ {
		p := p.in(format)
		size := (len(p.image()) + 3) / 4
		for i := range 24 {
			order := nth(i, 4)
			f := joined(t, 3)
			f.takes(noFormat)
			all := p.piecesOf(min(size, api.Chunk))
			if len(all) != 4 {
				t.Fatalf("%d pieces", len(all))
			}
			there := map[int]bool{}
			for k, number := range order {
				f.takesPieces(all[number])
				if k == 1 {
					f.takesPieces(all[number], all[order[0]])
				}
				there[number] = true
				missing := 0
				for there[missing] {
					missing++
				}
				if k < 3 {
					f.stands(fmt.Sprint("order ", order), question{0, 3, 9, format, missing}, api.OK)
					f.looksUpNothing("not all")
				}
			}
			f.stands(fmt.Sprint("order ", order), question{held: 9, formats: 3}, api.OK)
			f.looksUp(fmt.Sprint("order ", order), p)
			f.takesPieces(all...)
			f.stands("all again", question{held: 9, formats: 3}, api.OK)
		}
	}
}

// nth is one of all orders of n numbers.
func nth(i int, n int) []int {
	if n == 0 {
		return nil
	}
	l := nth(i/n, n-1)
	place := i % n
	return append(append(append([]int{}, l[:place]...), n-1), l[place:]...)
}

// A later piece of the same number takes the place of the earlier one.
func TestPiecesInPlaceOfOthers(t *testing.T) {
	p := later(9)
	all := p.pieces()
	for wrong := range all {
		f := joined(t, 3)
		bad := all[wrong]
		for _, bytes := range []string{"x", bad.bytes + "x", strings.Repeat("\x00", len(bad.bytes)), bad.bytes[1:]} {
			if bytes != "" && len(bytes) <= api.Chunk {
				bad.bytes = bytes
				f.takesPieces(bad)
			}
		}
		f.takesPieces(all[wrong])
		f.takesPieces(all...)
		f.stands(fmt.Sprint("piece ", wrong, " mended"), question{held: 9, formats: 3}, api.OK)
		f.looksUp(fmt.Sprint("piece ", wrong, " mended"), p)

		f = joined(t, 3)
		last := (wrong + 1) % len(all)
		for i, x := range all {
			if i != last {
				f.takesPieces(x)
			}
		}
		f.takesPieces(bad, all[last])
		f.stands(fmt.Sprint("piece ", wrong, " spoilt"), question{formats: 3}, api.OK)
		f.looksUpNothing(fmt.Sprint("piece ", wrong, " spoilt"))
		f.takesPieces(all...)
		f.stands("once more", question{held: 9, formats: 3}, api.OK)
		f.looksUp("once more", p)
	}
}

// A later generation begins anew; pieces of the earlier one are of no use then.
func TestTwoGenerations(t *testing.T) {
	for _, format := range []int{1, 2} {
		for _, other := range []int{1, 2} {
			f := joined(t, 3)
			a, b := later(7).in(format), plain(api.Probes).in(other)
			old, new := a.pieces(), b.piecesOf(30)
			f.takesPieces(old[:len(old)-1]...)
			f.stands("the earlier", question{0, 3, 7, format, len(old) - 1}, api.OK)
			f.takes(noFormat)
			f.takesPieces(new[1])
			f.stands("a later one", question{0, 3, 9, other, 0}, api.OK)
			f.takes(noFormat)
			f.takesPieces(old...)
			f.stands("the earlier goes on", question{0, 3, 9, other, 0}, api.ErrFormat)
			f.takesPieces(new[0])
			f.stands("the later goes on", question{0, 3, 9, other, 2}, api.OK)
			f.takesPieces(old[len(old)-1])
			f.takesPieces(new[2:]...)
			f.stands("the later is there", question{held: 9, formats: 3}, api.OK)
			f.looksUp("the later is there", b)
			f.takesPieces(old...)
			f.stands("the earlier again", question{held: 9, formats: 3}, api.OK)
			f.looksUp("the earlier again", b)
		}
	}
}

// What came of an earlier generation is not mixed with a later one that looks alike.
func TestLaterGenerationsHaveNoPieceYet(t *testing.T) {
	f := joined(t, 3)
	a, b := later(7), later(8)
	x, y := a.pieces(), b.pieces()
	f.takesPieces(x[:len(x)-1]...)
	f.takesPieces(y[len(y)-1])
	f.stands("the last piece of the later one", question{0, 3, 8, 1, 0}, api.OK)
	f.takesPieces(y[:len(y)-1]...)
	f.stands("all", question{held: 8, formats: 3}, api.OK)
	f.looksUp("all", b)
	// A later one of a single piece ends at once what was coming.
	one := drawn(config(api.Maglev, 3), 40, backends("a", 1)...)
	f.takesPieces(later(30).pieces()[1:]...)
	f.takesPieces(one.pieces()...)
	f.stands("one piece", question{held: 40, formats: 3}, api.OK)
	f.looksUp("one piece", one)
}

// All pieces are there, and they are not what they were said to be.
func TestWholesThatAreWrong(t *testing.T) {
	right := later(30)
	other := later(30)
	other.gen = 31
	bent := []byte(right.image())
	bent[50] ^= 1
	unread := right.copied()
	unread.list[0].place = 0
	for what, c := range map[string]struct {
		gen, format int
		text        string
	}{
		"a bent byte":               {30, 1, string(bent)},
		"cut":                       {30, 1, right.image()[:len(right.image())-1]},
		"a byte behind":             {30, 1, right.image() + "\x00"},
		"no sum":                    {30, 1, right.body()},
		"an owner without weight":   {30, 1, unread.image()},
		"the same in format 2":      {30, 2, unread.in(2).image()},
		"a later generation":        {30, 1, other.image()},
		"an earlier generation":     {32, 1, other.image()},
		"a far later one":           {30 + 1<<31, 1, right.image()},
		"format 2, said to be 1":    {30, 1, right.in(2).image()},
		"format 1, said to be 2":    {30, 2, right.image()},
		"format 2, said to be 3":    {30, 3, right.in(2).image()},
		"format 1, said to be 255":  {30, 255, right.image()},
		"a generation above MaxGen": {api.MaxGen + 1, 1, func() string { p := later(api.MaxGen + 1); return p.image() }()},
		"noise":                     {30, 1, "noise"},
		"a patch":                   {30, 1, func() string { _, _, p := turn(api.Ring); return p.patch() }()},
		"an answer":                 {30, 1, noNews},
	} {
		for _, held := range []int{0, 20} {
			for _, size := range []int{1, 17, api.Chunk} {
				f := joined(t, 3)
				if held > 0 {
					f.fetches(later(held).in(2))
				}
				l := cutUp(c.text, size)
				for i, bytes := range l {
					f.takes(noFormat)
					f.takesPieces(piece{c.gen, c.format, len(l), i, bytes})
				}
				f.stands(what, question{held: held, formats: 3}, api.OK)
				if held > 0 {
					f.looksUp(what, later(held))
				} else {
					f.looksUpNothing(what)
				}
				f.fetches(right.in(2))
				f.stands(what+", and then a right one", question{held: 30, formats: 3}, api.OK)
				f.looksUp(what+", and then a right one", right)
			}
		}
	}
}

// What a dataplane has been told, behind each kind of answer.
func TestWhatItHasBeenTold(t *testing.T) {
	for _, s := range standings(t) {
		s.f.takes(noFormat)
		s.told = api.ErrFormat
		s.stays("no common format")
		s.f.takes(noFormat)
		s.stays("no common format again")
		s.f.takes(noNews)
		s.told = api.OK
		s.stays("nothing")
		s.f.takes(noNews)
		s.stays("nothing again")
		s.f.takes(noFormat)
		x := later(40).in(2).pieces()
		s.f.takesPieces(x[1])
		s.f.stands(s.what+": a piece", question{s.q.held, 3, 40, 2, 0}, api.OK)
		s.f.takes(noFormat)
		s.f.stands(s.what+": told behind a piece", question{s.q.held, 3, 40, 2, 0}, api.ErrFormat)
		s.f.takesPieces(x[1])
		s.f.stands(s.what+": the same piece again", question{s.q.held, 3, 40, 2, 0}, api.OK)
		s.f.takes(noFormat)
		s.f.takesPieces(x...)
		s.f.stands(s.what+": the whole", question{held: 40, formats: 3}, api.OK)
		s.f.takes(noFormat)
		s.f.stands(s.what+": told behind the whole", question{held: 40, formats: 3}, api.ErrFormat)
		s.f.looksUp(s.what+": told behind the whole", later(40))
		s.f.takesPieces(x...)
		s.f.stands(s.what+": the whole again", question{held: 40, formats: 3}, api.ErrFormat)
	}
}

// Very many pieces, from behind: all are there at last, and are no image.
func TestVeryManyPieces(t *testing.T) {
	f := joined(t, 1)
	f.fetches(later(20))
	const all = 65535
	for number := all - 1; number > 0; number -= 2 {
		f.takesPieces(piece{21, 1, all, number, "\x00"})
	}
	f.stands("every other one", question{20, 1, 21, 1, 0}, api.OK)
	for number := 1; number < all; number += 2 {
		f.takesPieces(piece{21, 1, all, number, "\x00"})
	}
	f.stands("all but the first", question{20, 1, 21, 1, 0}, api.OK)
	f.takesPieces(piece{21, 1, all, 0, "\x00"})
	f.stands("all", question{held: 20, formats: 1}, api.OK)
	f.looksUp("all", later(20))
	for number := range all - 1 {
		f.takesPieces(piece{22, 1, all, number, strings.Repeat("C", api.Chunk)})
	}
	f.stands("all but the last", question{20, 1, 22, 1, all - 1}, api.OK)
	f.takesPieces(piece{22, 1, all, all - 1, "H"})
	f.stands("all", question{held: 20, formats: 1}, api.OK)
}

package service_test

import (
	"testing"

	"spread/api"
)

func TestExample10(t *testing.T) {
	f := joined(t, 3)
	frame, e := f.s.Tick(f.d)
	if got := hexed(frame, e); got != "5100000000030000000000000095afe755 OK" {
		t.Errorf("P11: example 10: Tick: %s", got)
	}
	if got := hexed(f.s.Serve(frame), api.OK); got != "4100bb6cbba8 OK" {
		t.Errorf("P11: example 10: Serve: %s", got)
	}
}

func TestExample11(t *testing.T) {
	c := config(api.Maglev, 7)
	c.Formats = 2
	f := join(t, start(t, c), 1)
	if got := hexed(f.round(), api.OK); got != "4102970db546 OK" {
		t.Errorf("P11: example 11: %s", got)
	}
	if gen, e := f.s.Held(f.d); gen != 0 || e != api.ErrFormat {
		t.Errorf("P12: example 11: Held: %d, %v", gen, e)
	}
}

// What a question says at each step of a table that comes.
func TestQuestions(t *testing.T) {
	for formats := 1; formats <= 3; formats++ {
		for format := 1; format <= 2; format++ {
			if formats&format == 0 {
				continue
			}
			p := plain(api.Ring).in(format)
			l := p.piecesOf(20)
			n := len(l)
			f := joined(t, formats)
			is := func(what string, held int, coming int, missing int) {
				t.Helper()
				q := question{held: held, formats: formats, coming: coming, missing: missing}
				if coming > 0 {
					q.format = format
				}
				f.stands(what, q, api.OK)
			}
			is("nothing", 0, 0, 0)
			f.takesPieces(l[2])
			is("a piece in the middle", 0, 9, 0)
			f.takesPieces(l[n-1])
			is("the last one too", 0, 9, 0)
			f.takesPieces(l[0])
			is("0, 2 and the last", 0, 9, 1)
			f.takesPieces(l[4])
			is("4 too", 0, 9, 1)
			f.takesPieces(l[1])
			is("0, 1, 2, 4 and the last", 0, 9, 3)
			f.takesPieces(l[3])
			is("0 to 4 and the last", 0, 9, 5)
			f.takesPieces(l[5:]...)
			is("all", 9, 0, 0)
			f.looksUp("all", p)
			f.takesPieces(l...)
			is("all again", 9, 0, 0)

			p.gen = 0x01020304
			l = p.piecesOf(1)
			for i, x := range l {
				is("piece by piece", 9, map[bool]int{true: p.gen}[i > 0], i)
				f.takesPieces(x)
			}
			is("the whole", p.gen, 0, 0)
			p.gen = api.MaxGen
			l = p.pieces()
			for i := len(l) - 1; i >= 0; i-- {
				f.takesPieces(l[i])
				if i > 0 {
					is("from behind", 0x01020304, p.gen, 0)
				}
			}
			is("the last generation", p.gen, 0, 0)
		}
	}
}

// Numbers that fill their bytes.
func TestGreatNumbersInQuestions(t *testing.T) {
	f := joined(t, 3)
	f.takesPieces(piece{1<<32 - 1, 2, 65535, 65534, "x"})
	f.stands("the last of very many", question{0, 3, 1<<32 - 1, 2, 0}, api.OK)
	for i := range 300 {
		f.takesPieces(piece{1<<32 - 1, 2, 65535, i, "x"})
	}
	f.stands("the first 300", question{0, 3, 1<<32 - 1, 2, 300}, api.OK)
	f.takesPieces(piece{1<<32 - 1, 2, 65535, 302, "x"}, piece{1<<32 - 1, 2, 65535, 300, "x"})
	f.stands("a piece between", question{0, 3, 1<<32 - 1, 2, 301}, api.OK)
	frame, _ := f.s.Tick(f.d)
	if want := sealed("Q\x00\x00\x00\x00\x03\xff\xff\xff\xff\x02\x01\x2d"); frame != want {
		t.Errorf("P11: Tick: %x", frame)
	}
	f.looksUpNothing("great numbers")
}

func TestTickChangesNothing(t *testing.T) {
	f := joined(t, 2)
	p := plain(api.Probes).in(2)
	for i, x := range p.piecesOf(30) {
		for range 3 {
			if i > 0 {
				f.stands("asked again", question{0, 2, 9, 2, i}, api.OK)
			}
		}
		f.takesPieces(x)
	}
	for range 3 {
		f.stands("asked again", question{held: 9, formats: 2}, api.OK)
	}
	f.looksUp("asked again", p)
}

// What a service publishes is no matter of its dataplanes' questions.
func TestQuestionsBesideThePool(t *testing.T) {
	f := joined(t, 3)
	f.takesPieces(plain(api.Ring).pieces()[0])
	want := f.toldBy()
	f.s.Add("a", 1)
	f.s.Add("b", 2)
	f.s.Set("a", 3)
	f.s.Drop()
	f.s.Remove("b")
	if got := f.toldBy(); got != want {
		t.Errorf("P11: a dataplane behind changes of the pool: got %s, want %s", got, want)
	}
}

package service_test

import (
	"fmt"
	"math/rand"
	"strings"
	"testing"

	"spread/api"
	"spread/service"
)

// roughBytes are texts of all kinds: by lot, with right beginnings, cut, doubled, sealed or not, and very long.
func roughBytes() []string {
	r := rand.New(rand.NewSource(7))
	l := append([]string{}, anyTexts...)
	_, _, p := turn(api.Ring)
	for _, begin := range []string{"", "CH", "CP", "CH\x01", "CH\x02\x02", plain(api.Maglev).body(), plain(api.Probes).in(2).body(), p.body(), p.body()[:20]} {
		for _, n := range []int{0, 1, 3, 4, 5, 40, 300} {
			noise := make([]byte, n)
			r.Read(noise)
			l = append(l, begin+string(noise), sealed(begin+string(noise)), sealed(begin+strings.Repeat("\xff", n)), sealed(begin+strings.Repeat("\x00", n)))
		}
	}
	return append(l, sealed(plain(api.Ring).body()+strings.Repeat("\x00", 1<<17)), sealed(p.body()+strings.Repeat("\xff", 1<<17)))
}

// Every call with bytes ends, and with an error tells nothing else.
func TestAnyBytes(t *testing.T) {
	texts := roughBytes()
	short := texts[:len(texts)-2]
	for _, a := range texts {
		first, second, gen, e := service.Decode(a)
		if e != api.OK && (first != "" || second != "" || gen != 0) || e == api.OK && (first == "" || second == "" || gen == 0) {
			t.Errorf("P1: Decode: %x, %x, %d, %v", first, second, gen, e)
		}
		for _, b := range short {
			patch, pe := service.Patch(a, b)
			image, ie := service.Apply(a, b)
			if (patch == "") != (pe != api.OK) || (image == "") != (ie != api.OK) {
				t.Errorf("P1: Patch: %x, %v; Apply: %x, %v", patch, pe, image, ie)
			}
		}
	}
}

// No frame makes a call panic, or does more than the model says.
func TestAnyFrames(t *testing.T) {
	frames := roughBytes()
	r := rand.New(rand.NewSource(8))
	for _, begin := range []string{"Q", "A", "A\x00", "A\x01", "A\x02", question{1, 3, 2, 1, 1}.body(), piece{1, 1, 2, 1, "x"}.body(), piece{1 << 31, 255, 65535, 65534, "x"}.body()} {
		for n := range 64 {
			noise := make([]byte, n)
			r.Read(noise)
			frames = append(frames, sealed(begin+string(noise)), begin+string(noise), sealed(begin+strings.Repeat("\xff", n)), sealed(begin+strings.Repeat("\x00", n)))
		}
	}
	for _, pool := range [][]api.Backend{nil, eight} {
		for formats := 1; formats <= 3; formats++ {
			c := spoken(api.Ring, 7, formats)
			s := pooled(t, c, pool...)
			var images [3]string
			for format := 1; format <= 2; format++ {
				images[format], _ = s.Image(format)
			}
			f, m := join(t, s, formats), modelPlane{formats: formats}
			for _, frame := range frames {
				if got, want := s.Serve(frame), modelServe(formats, len(pool), images, frame); got != want {
					t.Errorf("P11: Serve(%.80x): %x, want %x", frame, got, want)
				}
				f.takes(frame)
				m.receive(frame)
				f.stands(fmt.Sprintf("behind %.80x", frame), m.question(), map[bool]api.Errno{true: api.ErrFormat}[m.told])
			}
		}
	}
}

// Nothing that is made of bytes hangs on what was made before, and services know nothing of it.
func TestBytesAreApart(t *testing.T) {
	s := pooled(t, config(api.Ring, 7), backends("a b", 1, 2)...)
	want := tell(s)
	a, b, p := turn(api.Ring)
	first := decoded(a.image()) + hexed(service.Patch(a.image(), b.image())) + hexed(service.Apply(p.patch(), a.image()))
	for _, text := range roughBytes() {
		service.Decode(text)
		service.Patch(text, a.image())
		service.Apply(text, b.image())
	}
	for range 2 {
		if got := decoded(a.image()) + hexed(service.Patch(a.image(), b.image())) + hexed(service.Apply(p.patch(), a.image())); got != first {
			t.Errorf("P2: asked again: %s, want %s", got, first)
		}
	}
	expectTold(t, "P2: what a service tells behind it", tell(s), want)
	expectImage(t, "behind it", s, drawn(config(api.Ring, 7), 2, backends("a b", 1, 2)...))
}

// An image of every alteration that a pool can take, patched onto every other.
func TestPatchesThereAndBack(t *testing.T) {
	for _, alg := range algorithms {
		c := config(alg, 13)
		s := start(t, c)
		var images []string
		for i, step := range []func() api.Errno{
			func() api.Errno { return s.Add("m", 2) }, func() api.Errno { return s.Add("a", 1) }, func() api.Errno { return s.Add("z", 3) },
			func() api.Errno { return s.Set("m", 0) }, func() api.Errno { return s.Remove("a") }, func() api.Errno { return s.Set("z", 0) },
			func() api.Errno { return s.Remove("m") }, func() api.Errno { return s.Remove("z") }, func() api.Errno { return s.Add("m", 2) },
		} {
			expect(t, "a change", step(), api.OK)
			image, e := s.Image(1 + i%2)
			expect(t, "Image", e, api.OK)
			images = append(images, image)
		}
		for i, a := range images {
			for j, b := range images {
				patch, e := service.Patch(a, b)
				expect(t, "Patch", e, api.OK)
				want, _, gen, _ := service.Decode(b)
				if got := hexed(service.Apply(patch, a)); got != hexed(want, api.OK) || gen != j+1 {
					t.Errorf("P9: algorithm %d, from %d to %d: %s", alg, i+1, j+1, got)
				}
				for k, other := range images {
					if got := hexed(service.Apply(patch, other)); k != i && got != " ErrBase" {
						t.Errorf("P9: %s", fmt.Sprint("the patch of ", i+1, " applied to ", k+1, ": ", got))
					}
				}
			}
		}
	}
}

package service_test

import (
	"fmt"
	"math/rand"
	"testing"

	"spread/api"
	"spread/service"
)

// A network is a service with its dataplanes, all frames that are under way, and the models of both. It loses, doubles, delays and bends frames.
type network struct {
	t      *testing.T
	r      *rand.Rand
	c      api.Config
	s      *service.Service
	pool   []api.Backend
	gen    int
	images [3]string
	planes []*modelPlane
	frames []string
	forges bool // pieces that nobody's service sent
	failed bool
}

func newNetwork(t *testing.T, seed int64, forges bool) *network {
	r := rand.New(rand.NewSource(seed))
	c := api.Config{Alg: algorithms[r.Intn(4)], Slots: []int{3, 7, 31, 211}[r.Intn(4)], Points: 1 + r.Intn(3), Probes: 1 + r.Intn(5), Key: usualKey, Formats: 1 + r.Intn(3)}
	n := &network{t: t, r: r, c: c, s: start(t, c), forges: forges}
	for d := range api.MaxPlanes {
		formats := 1 + r.Intn(3)
		expectJoin(t, n.s, formats, d, api.OK)
		n.planes = append(n.planes, &modelPlane{formats: formats})
	}
	return n
}

func (n *network) wrong(what string, got string, want string) {
	n.failed = true
	n.t.Errorf("P11, P12: formats %d, generation %d: %s:\ngot  %s\nwant %s", n.c.Formats, n.gen, what, got, want)
}

func (n *network) publishes() {
	n.gen++
	p := drawn(n.c, n.gen, n.pool...)
	n.images = [3]string{"", p.image(), p.in(2).image()}
}

// changes the pool by lot.
func (n *network) changes() {
	id, w := string(rune('a'+n.r.Intn(9))), n.r.Intn(8)
	for i, b := range n.pool {
		if b.ID != id {
			continue
		}
		if w > 3 && n.s.Remove(id) == api.OK {
			n.pool = append(append([]api.Backend{}, n.pool[:i]...), n.pool[i+1:]...)
			n.publishes()
		} else if n.s.Set(id, w) == api.OK {
			n.pool[i].Weight = w
			n.publishes()
		}
		return
	}
	if n.s.Add(id, w) == api.OK {
		n.pool = append(n.pool, api.Backend{ID: id, Weight: w})
		n.publishes()
	}
}

func (n *network) asks(d int) string {
	frame, e := n.s.Tick(d)
	if want := n.planes[d].question().frame(); e != api.OK || frame != want {
		n.wrong(fmt.Sprint("Tick of ", d), hexed(frame, e), hexed(want, api.OK))
	}
	return frame
}

func (n *network) answers(frame string) string {
	got := n.s.Serve(frame)
	if want := modelServe(n.c.Formats, n.gen, n.images, frame); got != want {
		n.wrong(fmt.Sprintf("Serve(%x)", frame), hexed(got, 0), hexed(want, 0))
	}
	return got
}

func (n *network) gives(d int, frame string) {
	m := n.planes[d]
	e := n.s.Receive(d, frame)
	m.receive(frame)
	gen, told := n.s.Held(d)
	if e != api.OK || gen != m.held.gen || (told == api.ErrFormat) != m.told || told != api.OK && told != api.ErrFormat {
		n.wrong(fmt.Sprintf("Receive(%d, %x)", d, frame), fmt.Sprint(e, gen, told), fmt.Sprint(m.held.gen, m.told))
	}
	n.asks(d)
	n.looks(d, fmt.Sprint("key", n.r.Intn(50)))
}

func (n *network) looks(d int, key string) {
	want := `"" ErrNoTable`
	if n.planes[d].held.gen > 0 {
		want = n.planes[d].held.owner(key)
	}
	id, e := n.s.Lookup(d, key)
	if got := fmt.Sprintf("%q %v", id, e); got != want {
		n.wrong(fmt.Sprintf("Lookup(%d, %s)", d, key), got, want)
	}
}

// bends a frame at some place, and seals it anew or not.
func (n *network) bends(frame string) string {
	if frame == "" {
		return "A"
	}
	b := []byte(frame)
	i := n.r.Intn(len(b))
	switch n.r.Intn(4) {
	case 0:
		b[i] ^= 1 << n.r.Intn(8)
	case 1:
		b = b[:i]
	case 2:
		b = append(b, byte(n.r.Intn(256)))
	default:
		b[i] = byte(n.r.Intn(256))
	}
	if n.forges && n.r.Intn(2) == 0 && len(b) > 4 {
		return sealed(string(b[:len(b)-4]))
	}
	return string(b)
}

// forge is a piece by lot, near what is published or coming.
func (n *network) forge() string {
	p := drawn(n.c, 1+n.gen+n.r.Intn(3), n.pool...).in(1 + n.r.Intn(2))
	l := p.pieces()
	x := l[n.r.Intn(len(l))]
	switch n.r.Intn(8) {
	case 0:
		x.gen = n.r.Intn(n.gen + 4)
	case 1:
		x.format = n.r.Intn(8)
	case 2:
		x.pieces = n.r.Intn(len(l) + 2)
	case 3:
		x.number = n.r.Intn(len(l) + 2)
	case 4:
		x.bytes = x.bytes[:n.r.Intn(len(x.bytes)+1)]
	case 5:
		x = piece{p.gen, p.format, 1, 0, x.bytes}
	}
	return x.frame()
}

func (n *network) any() string {
	if len(n.frames) == 0 {
		return ""
	}
	return n.frames[n.r.Intn(len(n.frames))]
}

func (n *network) step() {
	d := n.r.Intn(api.MaxPlanes)
	switch n.r.Intn(20) {
	case 0:
		n.changes()
	case 1, 2, 3, 4:
		n.frames = append(n.frames, n.asks(d))
	case 5, 6, 7, 8:
		n.frames = append(n.frames, n.answers(n.any()))
	case 9, 10, 11, 12:
		n.gives(d, n.any())
	case 13, 14, 15:
		n.gives(d, n.answers(n.asks(d)))
	case 16:
		n.frames = append(n.frames, n.bends(n.any()))
	case 17:
		if n.forges {
			n.frames = append(n.frames, n.forge())
		}
	case 18:
		if n.r.Intn(10) == 0 {
			n.frames = nil
		}
	case 19:
		if n.r.Intn(5) == 0 {
			expect(n.t, "P12: Restart", n.s.Restart(d), api.OK)
			n.planes[d].restart()
			n.asks(d)
		}
	}
	if len(n.frames) > 40 {
		n.frames = n.frames[20:]
	}
}

func (n *network) runs(steps int) {
	for range steps {
		n.step()
		if n.failed {
			return
		}
	}
}

func TestNetworksBesideTheModels(t *testing.T) {
	for seed := range int64(60) {
		for _, forges := range []bool{false, true} {
			n := newNetwork(t, seed, forges)
			n.runs(600)
			if n.failed {
				t.Fatalf("seed %d, forging: %v", seed, forges)
			}
		}
	}
}

// Once the network is quiet, every dataplane that has a common format holds what is published.
func TestQuietNetworks(t *testing.T) {
	for seed := range int64(30) {
		n := newNetwork(t, 100+seed, false)
		n.runs(200)
		for d, m := range n.planes {
			f := far{t, n.s, d}
			if m.formats&n.c.Formats == 0 {
				if a := f.round(); a != noFormat {
					t.Errorf("P11: no common format: %x", a)
				}
				f.stands("no common format", question{formats: m.formats}, api.ErrFormat)
				continue
			}
			f.catchesUp()
			f.stands("quiet", question{held: n.gen, formats: m.formats}, api.OK)
			for _, key := range someKeys {
				id, e := n.s.Lookup(d, key)
				if want, we := n.s.Local(key); n.gen > 0 && (id != want || e != we) {
					t.Errorf("P12: quiet: Lookup(%.20q): %q, %v, want %q, %v", key, id, e, want, we)
				}
			}
		}
	}
}

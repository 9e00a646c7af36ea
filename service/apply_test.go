package service_test

import (
	"fmt"
	"math/rand"
	"strings"
	"testing"

	"spread/api"
	"spread/service"
)

// expectRefused wants a patch to be refused by an image in both formats.
func expectRefused(t *testing.T, what string, p laidPatch, a picture, want api.Errno) {
	t.Helper()
	for format := 1; format <= 2; format++ {
		expectApplied(t, fmt.Sprintf("%s (algorithm %d)", what, a.c.Alg), p, a.in(format), hexed("", want))
	}
}

// turn is a table of each algorithm, another with one backend more, and the patch between them.
func turn(alg int) (picture, picture, laidPatch) {
	c := api.Config{Alg: alg, Slots: 7, Points: 2, Probes: 3, Key: usualKey}
	a := drawn(c, 9, backends("a b d", 0, 1, 3)...)
	b := drawn(c, 10, backends("a b c d", 0, 1, 2, 3)...)
	return a, b, between(a, b)
}

func TestApplied(t *testing.T) {
	for _, alg := range algorithms {
		a, b, p := turn(alg)
		expectTurned(t, "one more", a, b)
		expectTurned(t, "one fewer", b, a)
		for gen, want := range map[int]api.Errno{0: api.ErrImage, 1: api.OK, 8: api.OK, 9: api.OK, 1 << 30: api.OK, 1<<30 + 1: api.ErrImage, 1 << 31: api.ErrImage, 1<<32 - 1: api.ErrImage} {
			q, r := p, b
			q.gen, r.gen = gen, gen
			if want != api.OK {
				expectRefused(t, fmt.Sprint("generation ", gen), q, a, want)
			} else {
				expectTurned(t, fmt.Sprint("generation ", gen), a, r)
				expectApplied(t, fmt.Sprint("generation ", gen), q, a, hexed(r.image(), api.OK))
			}
		}
	}
}

// A patch that lets fewer entries stay than it could is a patch too.
func TestLongerPatches(t *testing.T) {
	for _, alg := range algorithms {
		a, b, _ := turn(alg)
		p := between(a, b)
		for ahead := 0; ahead <= p.ahead; ahead++ {
			for behind := 0; behind <= p.behind; behind++ {
				q := p
				q.ahead, q.behind = ahead, behind
				q.list = b.list[ahead : len(b.list)-behind]
				q.count = len(q.list)
				expectApplied(t, "fewer stay", q, a, hexed(b.image(), api.OK))
				expectApplied(t, "fewer stay", q, a.in(2), hexed(b.image(), api.OK))
			}
		}
		q := between(a, a)
		for behind := range len(a.list) + 1 {
			q.ahead, q.behind = len(a.list)-behind, behind
			expectApplied(t, "all stay", q, a, hexed(a.image(), api.OK))
		}
	}
}

func TestAnotherBase(t *testing.T) {
	for _, alg := range algorithms {
		a, b, p := turn(alg)
		for _, base := range []int{0, 8, 10, 9 + 256, 9 + 1<<16, 9 + 1<<24, 1<<32 - 1} {
			q := p
			q.base = base
			expectRefused(t, fmt.Sprint("generation ", base), q, a, api.ErrBase)
		}
		for bit := range 32 {
			q := p
			q.sum ^= 1 << bit
			expectRefused(t, fmt.Sprint("bit ", bit, " of the sum"), q, a, api.ErrBase)
		}
		q := p
		q.sum = p.sum>>24 | p.sum>>8&0xff00 | p.sum<<8&0xff0000 | p.sum<<24
		expectRefused(t, "the sum's low byte first", q, a, api.ErrBase)
		second := a.in(2).image()
		q.sum = uint32(second[len(second)-1])<<24 | uint32(second[len(second)-2])<<16 | uint32(second[len(second)-3])<<8 | uint32(second[len(second)-4])
		expectRefused(t, "the sum of the image in format 2", q, a, api.ErrBase)
		expectRefused(t, "the patch's own table", p, b, api.ErrBase)
		other := a
		other.gen = 10
		expectRefused(t, "the same table of another generation", p, other, api.ErrBase)
		other = drawn(a.c, 9, backends("a b d", 1, 1, 3)...)
		expectRefused(t, "another table of the same generation", p, other, api.ErrBase)
		other = a
		other.c.Key = "fedcba9876543210"
		expectRefused(t, "another key", p, other, api.ErrBase)
	}
}

func TestApplyToWrongImages(t *testing.T) {
	for _, alg := range algorithms {
		a, _, p := turn(alg)
		right, body := a.image(), a.body()
		bent := []byte(right)
		bent[20] ^= 1
		for what, wrong := range map[string]string{
			"empty": "", "no sum": body, "cut": right[:len(right)-1], "cut and sealed": sealed(body[:len(body)-1]),
			"longer": sealed(body + "\x00"), "bent": string(bent), "format 3": a.in(3).image(), "a patch": p.patch(),
		} {
			if got := hexed(service.Apply(p.patch(), wrong)); got != " ErrImage" {
				t.Errorf("P9: Apply to a wrong image (%s): %s", what, got)
			}
			q := p
			q.base++
			if got := hexed(service.Apply(q.patch(), wrong)); got != " ErrImage" {
				t.Errorf("P9: Apply of another base to a wrong image (%s): %s", what, got)
			}
		}
	}
}

// refusedAheadOfTheBase wants ErrImage, also if the base is another.
func refusedAheadOfTheBase(t *testing.T, what string, patch string, a picture) {
	t.Helper()
	other := a
	other.gen++
	for format := 1; format <= 2; format++ {
		for _, p := range []picture{a, other} {
			if got := hexed(service.Apply(patch, p.in(format).image())); got != " ErrImage" {
				t.Errorf("P9: %s (algorithm %d, format %d, generation %d): %s", what, a.c.Alg, format, p.gen, got)
			}
		}
	}
}

func TestBytesThatAreNoPatch(t *testing.T) {
	for _, alg := range algorithms {
		a, b, p := turn(alg)
		right, body := p.patch(), p.body()
		refusedAheadOfTheBase(t, "empty", "", a)
		refusedAheadOfTheBase(t, "a sum alone", "\x00\x00\x00\x00", a)
		refusedAheadOfTheBase(t, "an image", a.image(), a)
		refusedAheadOfTheBase(t, "an image", b.image(), a)
		refusedAheadOfTheBase(t, "no sum", body, a)
		refusedAheadOfTheBase(t, "the sum of nothing", body+"\x00\x00\x00\x00", a)
		refusedAheadOfTheBase(t, "the sum's high byte first", body+high(int(right[len(right)-4])|int(right[len(right)-3])<<8|int(right[len(right)-2])<<16|int(right[len(right)-1])<<24, 4), a)
		refusedAheadOfTheBase(t, "sealed twice", sealed(right), a)
		for n := range right {
			refusedAheadOfTheBase(t, fmt.Sprint("cut to ", n), right[:n], a)
			for bit := range 8 {
				bent := []byte(right)
				bent[n] ^= 1 << bit
				refusedAheadOfTheBase(t, fmt.Sprint("a bent bit of byte ", n), string(bent), a)
			}
		}
		for n := range body {
			refusedAheadOfTheBase(t, fmt.Sprint("cut to ", n, " and sealed"), sealed(body[:n]), a)
		}
		for _, tail := range []string{"\x00", "\xff", "\x00\x00", strings.Repeat("\x00", 9), strings.Repeat("\x00", 1000)} {
			q := p
			q.tail = tail
			refusedAheadOfTheBase(t, "too long", q.patch(), a)
		}
		for _, begin := range []string{"CH", "cp", "PC", "CQ", "DP", "\x00\x00", "C", "", "CPP"} {
			q := p
			q.begin = begin
			refusedAheadOfTheBase(t, "beginning "+begin, q.patch(), a)
		}
		for _, count := range []int{p.count - 1, p.count + 1, p.count + 256, 65535} {
			q := p
			q.count = count & 65535
			refusedAheadOfTheBase(t, fmt.Sprint("it says ", count), q.patch(), a)
		}
	}
}

// The entries of a patch have the size that the image's algorithm gives them.
func TestPatchOfAnotherAlgorithm(t *testing.T) {
	for _, alg := range algorithms {
		_, _, p := turn(alg)
		for _, other := range algorithms {
			a, _, _ := turn(other)
			want := api.ErrBase
			if hasPoints(alg) != hasPoints(other) {
				want = api.ErrImage
			}
			if alg != other {
				expectRefused(t, "of another algorithm", p, a, want)
			}
			q := p
			q.count, q.list = 0, nil
			if alg != other {
				expectRefused(t, "of another algorithm, without entries", q, a, api.ErrBase)
			}
		}
	}
}

func TestBackendsOfAPatch(t *testing.T) {
	for _, alg := range algorithms {
		c := config(alg, 7)
		a := drawn(c, 9, backends("a b", 0, 0)...)
		turned := func(pool []api.Backend) laidPatch {
			return laidPatch{begin: "CP", base: 9, sum: a.sum(), gen: 10, backends: pool, points: hasPoints(alg)}
		}
		for _, pool := range [][]api.Backend{nil, backends("a", 0), backends("12345678", 0), backends("a b c d e f g h", make([]int, 8)...), {{ID: "\x7f"}, {ID: "\x80"}}} {
			b := drawn(c, 10, pool...)
			expectApplied(t, fmt.Sprint(pool), turned(pool), a, hexed(b.image(), api.OK))
		}
		for what, pool := range map[string][]api.Backend{
			"nine":           backends("a b c d e f g h i", make([]int, 9)...),
			"no name":        {{ID: ""}},
			"a longer name":  backends("123456789", 0),
			"names fall":     backends("b a", 0, 0),
			"two alike":      backends("a a", 0, 0),
			"the last fall":  backends("a c b", 0, 0, 0),
			"bytes' signs":   {{ID: "\x80"}, {ID: "\x7f"}},
			"the longest":    backends(strings.Repeat("x", 255), 0),
			"longer, behind": backends("a b 123456789", 0, 0, 0)[1:],
		} {
			refusedAheadOfTheBase(t, what, turned(pool).patch(), a)
		}
		for _, w := range []int{7, 8, 128, 255} {
			b := drawn(c, 10, backends("a", w)...)
			p := turned(b.backends)
			p.list, p.count = b.list, b.count
			refusedAheadOfTheBase(t, fmt.Sprint("weight ", w), p.patch(), a)
		}
		nine := drawn(c, 10, backends("a b c d e f g h i", 1, 1, 1, 1, 1, 1, 1, 1, 1)...)
		p := turned(nine.backends)
		p.list, p.count = nine.list, nine.count
		refusedAheadOfTheBase(t, "nine, with entries", p.patch(), a)
	}
}

// refusedBehindTheBase wants ErrImage, but ErrBase if the base is another.
func refusedBehindTheBase(t *testing.T, what string, p laidPatch, a picture) {
	t.Helper()
	expectRefused(t, what, p, a, api.ErrImage)
	q := p
	q.base++
	expectRefused(t, what+", another generation", q, a, api.ErrBase)
	q = p
	q.sum++
	expectRefused(t, what+", another sum", q, a, api.ErrBase)
}

func TestMoreStayThanThereAre(t *testing.T) {
	for _, alg := range algorithms {
		a, _, _ := turn(alg)
		n := len(a.list)
		p := between(a, a)
		for _, stay := range [][2]int{{n + 1, 0}, {0, n + 1}, {n, 1}, {1, n}, {n, n}, {n - 1, 2}, {65535, 0}, {0, 65535}, {65535, 65535}, {256 + n, 0}, {32768, 32768 + n}} {
			q := p
			q.ahead, q.behind = stay[0], stay[1]
			refusedBehindTheBase(t, fmt.Sprint("stay ", stay), q, a)
		}
	}
	for _, alg := range []int{api.Ring, api.Probes} {
		// What would come of these, if entries could stay twice, would read right.
		a := drawn(config(alg, 7), 5, backends("a", 2)...).pointedAt(10, 10)
		p := between(a, a)
		p.gen, p.backends = 6, backends("a", 3)
		for _, stay := range [][2]int{{2, 1}, {1, 2}, {3, 0}, {0, 3}} {
			p.ahead, p.behind = stay[0], stay[1]
			refusedBehindTheBase(t, fmt.Sprint("stay ", stay), p, a)
		}
		p.ahead, p.behind, p.count, p.list = 1, 1, 1, []laidEntry{{10, 0}}
		b := drawn(config(alg, 7), 6, backends("a", 3)...).pointedAt(10, 10, 10)
		expectApplied(t, "one between", p, a, hexed(b.image(), api.OK))
	}
}

func TestStayingOwners(t *testing.T) {
	for _, alg := range []int{api.Maglev, api.Rendezvous} {
		a := drawn(config(alg, 5), 9, backends("a b", 1, 1)...).owned(0, 1, 0, 0, 0)
		stay := func(ahead int, behind int, pool []api.Backend, places ...int) laidPatch {
			p := between(a, a)
			p.ahead, p.behind, p.backends = ahead, behind, pool
			for _, place := range places {
				p.list = append(p.list, laidEntry{0, place})
			}
			p.count = len(p.list)
			return p
		}
		refusedBehindTheBase(t, "one that stays at the beginning is not in the pool", stay(2, 3, backends("a", 1)), a)
		refusedBehindTheBase(t, "one that stays at the end is not in the pool", stay(1, 4, backends("a", 1)), a)
		refusedBehindTheBase(t, "another name at the same place", stay(5, 0, backends("a c", 1, 1)), a)
		refusedBehindTheBase(t, "nobody is in the pool", stay(5, 0, nil), a)
		refusedBehindTheBase(t, "one that stays has no weight any more", stay(5, 0, backends("a b", 1, 0)), a)
		expectApplied(t, "the one who is not in the pool does not stay", stay(1, 3, backends("a", 1), 0), a, hexed(drawn(a.c, 9, backends("a", 1)...).owned(0, 0, 0, 0, 0).image(), api.OK))
		expectApplied(t, "the one without weight does not stay", stay(1, 3, backends("a b", 1, 0), 0), a, hexed(drawn(a.c, 9, backends("a b", 1, 0)...).owned(0, 0, 0, 0, 0).image(), api.OK))
		expectApplied(t, "all stay at other places", stay(2, 3, backends("0 a a0 b", 6, 1, 1, 1)), a, hexed(drawn(a.c, 9, backends("0 a a0 b", 6, 1, 1, 1)...).owned(1, 3, 1, 1, 1).image(), api.OK))
	}
	for _, alg := range []int{api.Ring, api.Probes} {
		a := drawn(config(alg, 5), 9, backends("a b", 1, 1)...).owned(0, 1).pointedAt(10, 20)
		p := between(a, a)
		p.backends = backends("a c", 1, 1)
		refusedBehindTheBase(t, "one that stays is not in the pool", p, a)
		p.backends = backends("a", 2)
		refusedBehindTheBase(t, "one that stays is not in the pool", p, a)
		p.backends = backends("0 a b", 0, 1, 1)
		expectApplied(t, "all stay at other places", p, a, hexed(drawn(a.c, 9, p.backends...).owned(1, 2).pointedAt(10, 20).image(), api.OK))
	}
}

func TestWhatComesOfAPatchReadsRight(t *testing.T) {
	for _, alg := range []int{api.Maglev, api.Rendezvous} {
		a := drawn(config(alg, 5), 9, backends("a b c", 1, 1, 0)...).owned(0, 1, 0, 0, 0)
		laid := func(ahead int, behind int, places ...int) laidPatch {
			p := between(a, a)
			p.ahead, p.behind, p.gen = ahead, behind, 10
			for _, place := range places {
				p.list = append(p.list, laidEntry{0, place})
			}
			p.count = len(p.list)
			return p
		}
		expectApplied(t, "right", laid(1, 2, 1, 1), a, hexed(func() string { b := a.owned(0, 1, 1, 0, 0); b.gen = 10; return b.image() }(), api.OK))
		refusedBehindTheBase(t, "one entry fewer", laid(1, 2, 1), a)
		refusedBehindTheBase(t, "one entry more", laid(1, 2, 1, 1, 1), a)
		refusedBehindTheBase(t, "no entries", laid(0, 0), a)
		for _, place := range []int{2, 3, 4, 255, 256, 257, 65535} {
			refusedBehindTheBase(t, fmt.Sprint("an owner at place ", place), laid(1, 2, 1, place), a)
		}
		p := laid(0, 0, 0, 0, 0, 0, 0)
		p.backends = backends("a b c", 0, 0, 0)
		refusedBehindTheBase(t, "entries of a pool without weight", p, a)
		p = laid(0, 0)
		p.backends = backends("a b c", 0, 0, 0)
		b := drawn(a.c, 10, p.backends...)
		expectApplied(t, "no entries of a pool without weight", p, a, hexed(b.image(), api.OK))
	}
	for _, alg := range []int{api.Ring, api.Probes} {
		a := drawn(config(alg, 5), 9, backends("a b c", 1, 1, 0)...).owned(0, 1).pointedAt(10, 20)
		laid := func(pool []api.Backend, ahead int, behind int, list ...laidEntry) laidPatch {
			p := between(a, a)
			p.ahead, p.behind, p.gen, p.backends, p.list, p.count = ahead, behind, 10, pool, list, len(list)
			return p
		}
		right := func(what string, p laidPatch, list ...laidEntry) {
			t.Helper()
			b := drawn(a.c, 10, p.backends...)
			b.list = list
			expectApplied(t, what, p, a, hexed(b.image(), api.OK))
		}
		three := backends("a b c", 1, 1, 1)
		right("between", laid(three, 1, 1, laidEntry{15, 2}), laidEntry{10, 0}, laidEntry{15, 2}, laidEntry{20, 1})
		right("equal to the one ahead", laid(three, 1, 1, laidEntry{10, 2}), laidEntry{10, 0}, laidEntry{10, 2}, laidEntry{20, 1})
		refusedBehindTheBase(t, "equal to the one behind, places fall", laid(three, 1, 1, laidEntry{20, 2}), a)
		refusedBehindTheBase(t, "below the one ahead", laid(three, 1, 1, laidEntry{9, 2}), a)
		refusedBehindTheBase(t, "above the one behind", laid(three, 1, 1, laidEntry{21, 2}), a)
		refusedBehindTheBase(t, "falling between", laid(backends("a b c", 1, 1, 2), 1, 1, laidEntry{16, 2}, laidEntry{15, 2}), a)
		refusedBehindTheBase(t, "another's point", laid(three, 1, 1, laidEntry{15, 1}), a)
		refusedBehindTheBase(t, "a point too many", laid(three, 1, 1, laidEntry{15, 2}, laidEntry{15, 2}), a)
		refusedBehindTheBase(t, "a point too few", laid(three, 1, 1), a)
		refusedBehindTheBase(t, "an owner without weight", laid(backends("a b c d", 1, 1, 1, 0), 1, 1, laidEntry{15, 3}), a)
		for _, place := range []int{3, 4, 128, 130, 255} {
			refusedBehindTheBase(t, fmt.Sprint("an owner at place ", place), laid(three, 1, 1, laidEntry{15, place}), a)
		}
		// By the places in the old pool these would stand right.
		other := laid(backends("0 a b", 1, 1, 1), 1, 1, laidEntry{10, 0})
		refusedBehindTheBase(t, "equal to the one ahead, places fall in the new pool", other, a)
	}
}

// Bent patches with right sums: what each comes to is what the tests' own Apply finds.
func TestBentPatches(t *testing.T) {
	answers := map[api.Errno]int{}
	for _, alg := range algorithms {
		a, b, p := turn(alg)
		for _, pair := range []struct {
			from picture
			p    laidPatch
		}{{a, p}, {b, between(b, a)}, {a, between(a, a)}, {a, between(a, drawn(a.c, 4))}, {drawn(a.c, 4), between(drawn(a.c, 4), a)}} {
			body := pair.p.body()
			for i := range body {
				for _, x := range []byte{1, 2, 3, 4, 5, 7, 8, 128, 255} {
					bent := []byte(body)
					bent[i] ^= x
					expectAsApplied(t, answers, sealed(string(bent)), pair.from.image())
				}
			}
		}
	}
	if answers[api.OK] < 100 || answers[api.ErrImage] < 100 || answers[api.ErrBase] < 100 {
		t.Errorf("the answers were %v", answers)
	}
}

func expectAsApplied(t *testing.T, answers map[api.Errno]int, patch string, image string) {
	t.Helper()
	want, e := applied(patch, image)
	answers[e]++
	if got := hexed(service.Apply(patch, image)); got != hexed(want, e) {
		t.Errorf("P9: patch %x, image %x:\ngot  %s\nwant %s", patch, image, got, hexed(want, e))
	}
}

// Patches whose numbers and entries are drawn by lot from a few, so that many come near to being right.
func TestPatchesByLot(t *testing.T) {
	r := rand.New(rand.NewSource(12))
	answers := map[api.Errno]int{}
	pools := [][]api.Backend{backends("a", 1), backends("a b", 1, 1), backends("a b", 2, 1), backends("b c", 1, 1), backends("a b c", 1, 0, 1), nil}
	for range 30000 {
		c := config(algorithms[r.Intn(4)], 3)
		a := drawn(c, 1+r.Intn(2), pools[r.Intn(len(pools))]...)
		for i := range a.list {
			a.list[i].point = uint64(r.Intn(2) * i)
		}
		p := laidPatch{begin: "CP", base: 1, sum: a.sum(), gen: r.Intn(8), backends: pools[r.Intn(len(pools))], ahead: r.Intn(3), behind: r.Intn(3), points: hasPoints(c.Alg)}
		for range r.Intn(4) {
			p.list = append(p.list, laidEntry{uint64(r.Intn(3)), r.Intn(3)})
		}
		if !p.points {
			for i := range a.list {
				a.list[i].point = 0
			}
			p.sum = a.sum()
		}
		p.count = len(p.list)
		expectAsApplied(t, answers, p.patch(), a.in(1+r.Intn(2)).image())
	}
	if answers[api.OK] < 300 || answers[api.ErrImage] < 300 || answers[api.ErrBase] < 300 {
		t.Errorf("the answers were %v", answers)
	}
}

package service_test

import (
	"fmt"
	"math/rand"
	"reflect"
	"strings"
	"testing"

	"spread/api"
	"spread/service"
)

func TestExamplesOneAndTwo(t *testing.T) {
	s := start(t, config(api.Maglev, 7))
	expect(t, "Add b", s.Add("b", 1), api.OK)
	expectSlots(t, "b 1", s, "b b b b b b b")
	expect(t, "Add a", s.Add("a", 1), api.OK)
	expectSlots(t, "a 1", s, "a b a a a b b")
	expect(t, "Set a", s.Set("a", 2), api.OK)
	expectSlots(t, "a 2", s, "a b a a a b a")
	expect(t, "Add c", s.Add("c", 3), api.OK)
	expectSlots(t, "c 3", s, "c b c a a c c")
	for i, want := range strings.Fields("c c a c b c a c") {
		if id, e := s.Local(fmt.Sprintf("key%d", i)); id != want || e != api.OK {
			t.Errorf("P7: key%d: %q, %v, want %q", i, id, e, want)
		}
	}
}

func TestExampleFour(t *testing.T) {
	s := pooled(t, config(api.Rendezvous, 11), backends("a b c", 1, 1, 2)...)
	expectSlots(t, "three", s, "c c c a c c c b c b a")
	expect(t, "Add d", s.Add("d", 6), api.OK)
	expectSlots(t, "four", s, "d d c a d d d d c b d")
}

func TestExampleSeven(t *testing.T) {
	for _, alg := range algorithms {
		for size := range api.MaxPool + 1 {
			s := pooled(t, config(alg, 11), backends("a b c d e f g h", 0, 0, 0, 0, 0, 0, 0, 0)[:size]...)
			if size == 0 {
				expect(t, "Add", s.Add("a", 6), api.OK)
				expect(t, "Remove", s.Remove("a"), api.OK)
			}
			if s.Slots() != nil {
				t.Errorf("P6: algorithm %d: %q", alg, s.Slots())
			}
			for _, k := range someKeys {
				if id, e := s.Local(k); id != "" || e != api.ErrNoBackend {
					t.Errorf("P7: algorithm %d: %q, %v", alg, id, e)
				}
			}
		}
	}
}

func TestSharesOfMaglev(t *testing.T) {
	for _, c := range []struct {
		slots   int
		names   string
		weights []int
		shares  string
		table   string
	}{
		{7, "b a", []int{1, 1}, "a4 b3", "a b a a a b b"},
		{5, "c b a", []int{1, 1, 1}, "a2 b2 c1", "b c a b a"},
		{11, "b c a", []int{2, 2, 2}, "a4 b4 c3", "a b c a b a b a c c b"},
		{7, "d c b a", []int{0, 2, 1, 1}, "a2 b2 c3 d0", "c b c a a b c"},
		{3, "d c b a", []int{6, 1, 1, 0}, "a0 b1 c0 d2", "d d b"},
		{13, "a b c d", []int{6, 1, 6, 1}, "a6 b1 c5 d1", "a a b c c d a c c a a c a"},
		{3, "h g f e d c b a", []int{1, 1, 1, 1, 1, 1, 1, 1}, "a1 b1 c1 d0 e0 f0 g0 h0", ""},
		{211, "a b c d e f g h", []int{6, 6, 6, 6, 6, 6, 6, 6}, "a27 b27 c27 d26 e26 f26 g26 h26", ""},
	} {
		s := pooled(t, config(api.Maglev, c.slots), backends(c.names, c.weights...)...)
		slots := s.Slots()
		count := map[string]int{}
		for _, id := range slots {
			count[id]++
		}
		for _, want := range strings.Fields(c.shares) {
			if got := fmt.Sprint(want[:1], count[want[:1]]); got != want {
				t.Errorf("P5: %d slots, %s %v: share %s, want %s", c.slots, c.names, c.weights, got, want)
			}
		}
		if c.table != "" {
			expectSlots(t, fmt.Sprintf("%d slots, %s %v", c.slots, c.names, c.weights), s, c.table)
		}
	}
}

func TestFullPools(t *testing.T) {
	for alg, want := range map[int]string{
		api.Maglev:     "dchagbcfbghcghfedaafehdbhcbaeedbgdcbgahcgfaedgfbchgfechebhgbhebhfbacgbeaafbeabfdbgdbedgbhefabdgbdebgcbecgfabccbeghcdefdcaefchadfchadfgdgcdheaccgeahcdfacfgfachadhcehfcgehfdfdhacebdaedhbaefghgafgcabhdfedbgfadfgeah",
		api.Rendezvous: "feafcgacgaeafbbbbbgdabfafdhfcdccffadfgbfacdfacagcgabfbhfhfbbgdgaeffgefdfdfccehbbhagaabcabfcdecdgfdceaffeddaghcaafgcgedfgebabfacgcbceccfbhcgbfcbcbcgghcgcdhfgdcbebeabdhhahfbcafdafcddbchdbeeegdfcfhfcbefbbgacgdheddh",
	} {
		s := pooled(t, config(alg, 211), backends("h a g b f c e d", 6, 6, 6, 6, 6, 6, 6, 6)...)
		expectSlots(t, "P5: a full pool", s, strings.Join(strings.Split(want, ""), " "))
	}
}

func TestPoolOfOne(t *testing.T) {
	for _, alg := range []int{api.Maglev, api.Rendezvous} {
		for _, slots := range []int{3, 5, 211} {
			for w := 1; w <= api.MaxWeight; w++ {
				s := pooled(t, config(alg, slots), api.Backend{ID: "\x00\xff", Weight: w})
				want := strings.TrimSpace(strings.Repeat("\x00\xff ", slots))
				expectSlots(t, "P5: a pool of one", s, want)
			}
		}
	}
}

// rising are names of any bytes, in their order.
var rising = []string{"\x00", "\x00\x00", "a", "a\x00", "\x7f", "\x80", "\xff\xfe", "\xff\xff\xff\xff\xff\xff\xff\xff"}

func TestNamesOfAnyBytes(t *testing.T) {
	weights := []int{1, 2, 1, 3, 1, 2, 1, 1}
	alike := []int{1, 1, 1, 1, 1, 1, 1, 1}
	for _, c := range []struct {
		alg, slots, points int
		weights            []int
		want               []int
	}{
		{api.Maglev, 23, 1, weights, []int{5, 6, 3, 3, 3, 7, 3, 5, 6, 7, 0, 5, 3, 1, 1, 1, 1, 5, 2, 0, 2, 4, 4}},
		{api.Maglev, 3, 1, weights, []int{5, 3, 1}},
		{api.Maglev, 3, 1, alike, []int{0, 2, 1}},
		{api.Rendezvous, 23, 1, weights, []int{3, 1, 3, 2, 7, 1, 3, 1, 3, 3, 6, 7, 0, 6, 1, 1, 3, 5, 5, 6, 5, 3, 5}},
		{api.Ring, 3, 2, weights, []int{7, 5, 6, 5, 3, 5, 5, 4, 1, 3, 3, 7, 3, 1, 0, 2, 0, 3, 6, 3, 1, 4, 1, 2}},
		{api.Probes, 3, 2, weights, []int{1, 5, 3, 1, 5, 7, 2, 4, 0, 6, 3, 3}},
	} {
		for turn := range rising {
			k := config(c.alg, c.slots)
			k.Points = c.points
			s := start(t, k)
			for i := range rising {
				place := (turn + 3*i) % len(rising)
				expect(t, "Add", s.Add(rising[place], c.weights[place]), api.OK)
			}
			var want []string
			for _, place := range c.want {
				want = append(want, rising[place])
			}
			if got := s.Slots(); !reflect.DeepEqual(got, want) {
				t.Errorf("P5: algorithm %d: %q, want %q", c.alg, got, want)
			}
		}
	}
}

// The hashes HASH('h', 0 and 0, name) of the two names of a pair are the same, under the usual key.
var pairs = [][2]string{
	{"\xb1\x5b\xee\xb9\xd6\x70\xdf\xf4", "\xd3\xcb\xe6\x2a\x1e\x04\x04\x74"},
	{"\x11\x4a\x24\xf9\xc8\x5b\xa5\xeb", "\x12\xe6\xd7\x36\xf6\xb0\x49\x5f"},
	{"\x22\xec\xbc\x98\xd6\x86\x2d\x8e", "\x2f\x6b\xb7\x57\xc4\x89\xda\xc7"},
}

func TestEqualHashesOfRendezvous(t *testing.T) {
	for _, p := range pairs {
		first := oracleHash(usualKey, "h", []int{0, 0}, p[0])
		if first != oracleHash(usualKey, "h", []int{0, 0}, p[1]) {
			t.Fatalf("%q: these hashes differ", p)
		}
		for _, order := range [][2]int{{0, 1}, {1, 0}} {
			s := start(t, config(api.Rendezvous, 5))
			for _, i := range order {
				expect(t, "Add", s.Add(p[i], 1), api.OK)
			}
			if got := s.Slots()[0]; got != p[0] {
				t.Errorf("P5: of equal hashes not the first by name wins: %q", got)
			}
		}
	}
	// Of the last pair it is the greatest hash of slot 0 at every weight.
	p := pairs[2]
	for w := 1; w <= api.MaxWeight; w++ {
		s := pooled(t, config(api.Rendezvous, 5), api.Backend{ID: p[1], Weight: 1}, api.Backend{ID: p[0], Weight: w})
		expect(t, "Set", s.Set(p[1], api.MaxWeight), api.OK)
		if got := s.Slots()[0]; got != p[0] {
			t.Errorf("P5: of equal hashes not the first by name wins: %q", got)
		}
	}
}

func TestTableHangsOnThePoolAlone(t *testing.T) {
	for _, alg := range algorithms {
		c := config(alg, 31)
		want := pooled(t, c, backends("a b c d", 2, 5, 0, 1)...).Slots()
		for name, s := range map[string]*service.Service{
			"another order":    pooled(t, c, backends("d c b a", 1, 0, 5, 2)...),
			"yet another one":  pooled(t, c, backends("c a d b", 0, 2, 1, 5)...),
			"by way of others": byWayOfOthers(t, c),
		} {
			if got := s.Slots(); !reflect.DeepEqual(got, want) {
				t.Errorf("P5: algorithm %d: %s: %q, want %q", alg, name, got, want)
			}
		}
	}
}

func byWayOfOthers(t *testing.T, c api.Config) *service.Service {
	t.Helper()
	s := pooled(t, c, backends("x d b y a c", 6, 6, 1, 1, 0, 3)...)
	expect(t, "Set d", s.Set("d", 1), api.OK)
	expect(t, "Remove x", s.Remove("x"), api.OK)
	expect(t, "Set b", s.Set("b", 5), api.OK)
	expect(t, "Set a", s.Set("a", 2), api.OK)
	expect(t, "Set c", s.Set("c", 0), api.OK)
	expect(t, "Remove y", s.Remove("y"), api.OK)
	return s
}

// walker is a service beside the weights that its pool should have.
type walker struct {
	s       *service.Service
	c       api.Config
	weights map[string]int
	gen     int
}

func (w *walker) step(t *testing.T, r *rand.Rand) {
	t.Helper()
	id := []string{"a", "b", "c", "ab", "\x00", "\x80", "z\xff", "12345678", "é", "A"}[r.Intn(10)]
	weight := r.Intn(9) - 1
	_, there := w.weights[id]
	var got, want api.Errno
	switch r.Intn(4) {
	case 0, 1:
		got = w.s.Add(id, weight)
		switch {
		case weight < 0 || weight > 6:
			want = api.ErrWeight
		case there:
			want = api.ErrDup
		case len(w.weights) == 8:
			want = api.ErrFull
		default:
			w.weights[id] = weight
		}
	case 2:
		got = w.s.Set(id, weight)
		switch {
		case weight < 0 || weight > 6:
			want = api.ErrWeight
		case !there:
			want = api.ErrUnknown
		default:
			w.weights[id] = weight
		}
	case 3:
		got = w.s.Remove(id)
		if !there {
			want = api.ErrUnknown
		}
		delete(w.weights, id)
	}
	expect(t, "a step", got, want)
	if want == api.OK {
		w.gen++
	}
}

func (w *walker) check(t *testing.T) {
	t.Helper()
	slots, points := oracleSlots(w.c, w.weights), oraclePoints(w.c, w.weights)
	if w.gen == 0 {
		slots = nil
	}
	got := w.s.Slots()
	if w.s.Gen() != w.gen || !reflect.DeepEqual(got, slots) {
		t.Fatalf("P4, P5: %+v, %v: generation %d, want %d; %q, want %q", w.c, w.weights, w.s.Gen(), w.gen, got, slots)
	}
	for _, k := range someKeys {
		owner, want := "", api.OK
		switch {
		case w.gen == 0:
			want = api.ErrNoTable
		case slots == nil:
			want = api.ErrNoBackend
		default:
			owner = oracleOwner(w.c, slots, points, k)
		}
		if id, e := w.s.Local(k); id != owner || e != want {
			t.Fatalf("P7: %+v, %v: key %.20q: %q, %v, want %q, %v", w.c, w.weights, k, id, e, owner, want)
		}
	}
}

func TestWalksBesideTheOracle(t *testing.T) {
	r := rand.New(rand.NewSource(1))
	for i := range 80 {
		key := make([]byte, api.KeyLen)
		r.Read(key)
		c := config(algorithms[i%4], []int{3, 5, 7, 13, 61, 199, 211}[r.Intn(7)])
		c.Key = string(key)
		c.Points = 1 + r.Intn(api.MaxPoints)
		c.Probes = 1 + r.Intn(api.MaxProbes)
		w := &walker{s: start(t, c), c: c, weights: map[string]int{}}
		for range 60 {
			w.check(t)
			w.step(t, r)
			if r.Intn(5) == 0 {
				w.s.Drop()
			}
		}
		w.check(t)
	}
}

func TestPointsProbesFormatsDoNotCountForSlots(t *testing.T) {
	for _, alg := range []int{api.Maglev, api.Rendezvous} {
		want := tell(pooled(t, config(alg, 13), backends("a b c", 1, 2, 3)...))
		c := api.Config{Alg: alg, Slots: 13, Points: 3, Probes: 5, Key: usualKey, Formats: 1}
		expectTold(t, "P5: other points, probes, formats", tell(pooled(t, c, backends("a b c", 1, 2, 3)...)), want)
	}
}

package codec

import (
	"spread/api"
	"spread/bits"
	"spread/seal"
	"spread/table"
)

// change is what a patch says: the base's generation and sum, the generation and the pool that come, how many entries stay at the beginning and at the end, and those between.
type change struct {
	base          int
	sum           uint32
	gen           int
	backends      []api.Backend
	ahead, behind int
	between       []table.Entry
}

func writeChange(c change, alg int) string {
	var w bits.Writer
	w.Text("CP")
	w.Int(c.base, 4)
	w.Number(uint64(c.sum), 32)
	w.Int(c.gen, 4)
	putBackends(&w, c.backends)
	w.Int(c.ahead, 2)
	w.Int(c.behind, 2)
	w.Int(len(c.between), 2)
	putEntries(&w, widthsOf(1, alg, len(c.backends)), c.between)
	text := w.Done()
	return seal.Sealed(text)
}

// readChange reads a patch of a table of that algorithm; false: it is none.
func readChange(text string, alg int) (change, bool) {
	inside, sealed := seal.Opened(text)
	if !sealed {
		return change{}, false
	}
	r := bits.Read(inside)
	beginning := r.Text(2)
	if beginning != "CP" {
		return change{}, false
	}
	var c change
	c.base = r.Int(4)
	sum := r.Number(32)
	c.sum = uint32(sum)
	c.gen = r.Int(4)
	backends, ok := takeBackends(&r)
	if !ok {
		return change{}, false
	}
	c.backends = backends
	c.ahead = r.Int(2)
	c.behind = r.Int(2)
	count := r.Int(2)
	c.between = takeEntries(&r, widthsOf(1, alg, len(backends)), count)
	if !r.Over() {
		return change{}, false
	}
	return c, true
}

// turned tells the entries that come of the old ones.
func (c *change) turned(old []table.Entry) []table.Entry {
	var list []table.Entry
	for i, e := range old {
		if i < c.ahead {
			list = append(list, e)
		}
	}
	list = append(list, c.between...)
	for i, e := range old {
		if i >= len(old)-c.behind {
			list = append(list, e)
		}
	}
	return list
}

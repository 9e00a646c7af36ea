package codec

import (
	"spread/api"
	"spread/bits"
	"spread/pool"
	"spread/table"
)

func putBackends(w *bits.Writer, backends []api.Backend) {
	w.Int(len(backends), 1)
	for _, b := range backends {
		w.Int(len(b.ID), 1)
		w.Text(b.ID)
		w.Int(b.Weight, 1)
	}
}

// takeBackends reads a pool; false: it is none. Whether the text was too short for it, the reader knows.
func takeBackends(r *bits.Reader) ([]api.Backend, bool) {
	var list []api.Backend
	count := r.Int(1)
	for i := 0; i < count && !r.Short(); i++ {
		var b api.Backend
		size := r.Int(1)
		b.ID = r.Text(size)
		b.Weight = r.Int(1)
		list = append(list, b)
	}
	if !pool.Right(list) {
		return nil, false
	}
	return list, true
}

// widths tells how many bits of an entry are the point and the owner's place.
type widths struct {
	point, place int
}

// widthsOf tells the widths of a format: the first has whole bytes everywhere, so that both can be laid as bits.
func widthsOf(format int, alg int, backends int) widths {
	w := widths{point: 0, place: 16}
	if table.HasPoints(alg) {
		w = widths{point: 64, place: 8}
	}
	if format == 2 {
		w.place = placeBits(backends)
	}
	return w
}

// placeBits tells how few bits can tell all places of a pool: as many as its last place has, one at least.
func placeBits(backends int) int {
	width := 1
	for rest := (backends - 1) / 2; rest > 0; rest /= 2 {
		width++
	}
	return width
}

func putEntries(w *bits.Writer, size widths, entries []table.Entry) {
	for _, e := range entries {
		w.Number(e.Point, size.point)
		w.Number(uint64(e.Owner), size.place)
	}
}

// takeEntries reads so many entries. Whether the text was too short for them, the reader knows.
func takeEntries(r *bits.Reader, size widths, count int) []table.Entry {
	var list []table.Entry
	for i := 0; i < count && !r.Short(); i++ {
		var e table.Entry
		e.Point = r.Number(size.point)
		place := r.Number(size.place)
		e.Owner = int(place)
		list = append(list, e)
	}
	return list
}

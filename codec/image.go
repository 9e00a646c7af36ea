// Package codec turns tables into images and patches, and reads these.
package codec

import (
	"spread/api"
	"spread/bits"
	"spread/rules"
	"spread/seal"
	"spread/table"
)

// Image is what an image tells. The table's configuration has no Formats: they stand in no image.
type Image struct {
	Format int
	Gen    int
	Table  table.Table
}

// WriteImage tells a table's image (P8).
func WriteImage(format int, gen int, t table.Table) string {
	return seal.Sealed(body(format, gen, t))
}

// body tells what stands in an image ahead of the sum.
func body(format int, gen int, t table.Table) string {
	var w bits.Writer
	w.Text("CH")
	w.Int(format, 1)
	w.Int(t.Config.Alg, 1)
	w.Int(gen, 4)
	w.Int(t.Config.Slots, 2)
	w.Int(t.Config.Points, 1)
	w.Int(t.Config.Probes, 1)
	w.Text(t.Config.Key)
	putBackends(&w, t.Pool)
	w.Int(len(t.Entries), 2)
	putEntries(&w, widthsOf(format, t.Config.Alg, len(t.Pool)), t.Entries)
	return w.Done()
}

// ReadImage tells what an image says; false: it does not read right (P8).
func ReadImage(text string) (Image, bool) {
	inside, sealed := seal.Opened(text)
	if !sealed {
		return Image{}, false
	}
	r := bits.Read(inside)
	beginning := r.Text(2)
	if beginning != "CH" {
		return Image{}, false
	}
	m := takeHead(&r)
	if !rules.Format(m.Format) || !rules.TableConfig(m.Table.Config) {
		return Image{}, false
	}
	backends, ok := takeBackends(&r)
	if !ok {
		return Image{}, false
	}
	m.Table.Pool = backends
	count := r.Int(2)
	m.Table.Entries = takeEntries(&r, widthsOf(m.Format, m.Table.Config.Alg, len(backends)), count)
	if !r.Over() || !right(m.Gen, m.Table) {
		return Image{}, false
	}
	return m, true
}

// takeHead reads what stands between the beginning and the backends.
func takeHead(r *bits.Reader) Image {
	var m Image
	var c api.Config
	m.Format = r.Int(1)
	c.Alg = r.Int(1)
	m.Gen = r.Int(4)
	c.Slots = r.Int(2)
	c.Points = r.Int(1)
	c.Probes = r.Int(1)
	c.Key = r.Text(api.KeyLen)
	m.Table.Config = c
	return m
}

// right tells whether an image of such a table would read right, if its configuration and its pool are right.
func right(gen int, t table.Table) bool {
	return rules.Generation(gen) && t.Right()
}

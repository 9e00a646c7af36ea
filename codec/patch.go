package codec

import (
	"spread/api"
	"spread/seal"
	"spread/table"
)

// Patch tells what turns one image's table into another's (P9).
func Patch(from string, to string) (string, api.Errno) {
	a, ok := ReadImage(from)
	if !ok {
		return "", api.ErrImage
	}
	b, ok := ReadImage(to)
	if !ok || a.Table.Config != b.Table.Config {
		return "", api.ErrImage
	}
	// By places in one pool, entries are the same if their owners' names and their points are.
	old := a.Table.EntriesIn(b.Table.Pool)
	var c change
	c.base = a.Gen
	c.sum = sumOf(a)
	c.gen = b.Gen
	c.backends = b.Table.Pool
	c.ahead = sameAhead(old, b.Table.Entries)
	c.behind = sameBehind(old[c.ahead:], b.Table.Entries[c.ahead:])
	c.between = b.Table.Entries[c.ahead : len(b.Table.Entries)-c.behind]
	return writeChange(c, b.Table.Config.Alg), api.OK
}

// sumOf tells by which sum a patch knows a table: that of its image in format 1, whatever format it came in.
func sumOf(m Image) uint32 {
	return seal.Sum(body(1, m.Gen, m.Table))
}

// sameAhead tells how many entries are the same at the beginning of both.
func sameAhead(a []table.Entry, b []table.Entry) int {
	n := 0
	for n < len(a) && n < len(b) && a[n] == b[n] {
		n++
	}
	return n
}

// sameBehind tells how many entries are the same at the end of both.
func sameBehind(a []table.Entry, b []table.Entry) int {
	n := 0
	for n < len(a) && n < len(b) && a[len(a)-1-n] == b[len(b)-1-n] {
		n++
	}
	return n
}

// Apply turns an image's table by a patch (P9).
func Apply(patch string, image string) (string, api.Errno) {
	m, ok := ReadImage(image)
	if !ok {
		return "", api.ErrImage
	}
	c, ok := readChange(patch, m.Table.Config.Alg)
	if !ok {
		return "", api.ErrImage
	}
	if c.base != m.Gen || c.sum != sumOf(m) {
		return "", api.ErrBase
	}
	if c.ahead+c.behind > len(m.Table.Entries) {
		return "", api.ErrImage
	}
	next := table.Table{Config: m.Table.Config, Pool: c.backends}
	// An owner who is not in the patch's pool has no place in it, so that such a table is not right.
	next.Entries = c.turned(m.Table.EntriesIn(c.backends))
	if !right(c.gen, next) {
		return "", api.ErrImage
	}
	return WriteImage(1, c.gen, next), api.OK
}

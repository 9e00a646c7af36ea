package plane

import "spread/bits"

// transfer is an image on its way. The pieces that are there stand by their numbers; those that are missing take no room, since a frame may speak of very many.
type transfer struct {
	gen    int // 0: nothing is coming
	format int
	pieces int // how many it is of
	there  []piece
}

type piece struct {
	number int
	bytes  string
}

// missing tells the number of the first piece that is not there; if all are, the one behind them.
func (t *transfer) missing() int {
	n := 0
	for n < len(t.there) && t.there[n].number == n {
		n++
	}
	return n
}

func (t *transfer) whole() bool {
	return len(t.there) == t.pieces
}

// lay puts a piece in its place, instead of an earlier one.
func (t *transfer) lay(p piece) {
	i := len(t.there)
	for i > 0 && t.there[i-1].number >= p.number {
		i--
	}
	if i == len(t.there) || t.there[i].number != p.number {
		t.room(i)
	}
	t.there[i] = p
}

// room moves the pieces from a place on one place up.
func (t *transfer) room(place int) {
	t.there = append(t.there, piece{})
	for i := len(t.there) - 1; i > place; i-- {
		t.there[i] = t.there[i-1]
	}
}

// image tells the pieces one behind the other.
func (t *transfer) image() string {
	var w bits.Writer
	for _, p := range t.there {
		w.Text(p.bytes)
	}
	return w.Done()
}

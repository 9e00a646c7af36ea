package wire

import (
	"spread/api"
	"spread/bits"
	"spread/seal"
)

// The kinds of answers.
const (
	NoNews   = 0
	Piece    = 1
	NoFormat = 2 // none that both speak
)

// Answer is what comes back. Of a piece, it tells the image's generation, its format, of how many pieces it is, which this one is, and its bytes; other kinds tell nothing more.
type Answer struct {
	Kind   int
	Gen    int
	Format int
	Pieces int
	Number int
	Bytes  string
}

const head = 11 // bytes of an answer ahead of its piece

// WriteAnswer tells an answer's frame (P11).
func WriteAnswer(a Answer) string {
	var w bits.Writer
	w.Text("A")
	w.Int(a.Kind, 1)
	if a.Kind == Piece {
		w.Int(a.Gen, 4)
		w.Int(a.Format, 1)
		w.Int(a.Pieces, 2)
		w.Int(a.Number, 2)
		w.Text(a.Bytes)
	}
	text := w.Done()
	return seal.Sealed(text)
}

// ReadAnswer tells what a frame answers; false: it is no answer (P12).
func ReadAnswer(frame string) (Answer, bool) {
	text, sealed := seal.Opened(frame)
	if !sealed {
		return Answer{}, false
	}
	r := bits.Read(text)
	letter := r.Text(1)
	var a Answer
	a.Kind = r.Int(1)
	if a.Kind == Piece {
		a.Gen = r.Int(4)
		a.Format = r.Int(1)
		a.Pieces = r.Int(2)
		a.Number = r.Int(2)
		a.Bytes = r.Text(len(text) - head)
	}
	if letter != "A" || !r.Over() || !a.right() {
		return Answer{}, false
	}
	return a, true
}

// right tells whether there are answers of that kind, and pieces of that size.
func (a *Answer) right() bool {
	switch a.Kind {
	case NoNews, NoFormat:
		return true
	case Piece:
		return 1 <= len(a.Bytes) && len(a.Bytes) <= api.Chunk
	}
	return false
}

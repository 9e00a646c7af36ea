// Package plane is a dataplane: it holds a table, and fetches later ones piece by piece.
package plane

import (
	"spread/api"
	"spread/codec"
	"spread/table"
	"spread/wire"
)

// Plane is a dataplane: its formats, the table that it holds and that table's generation, what is coming, and whether it has been told that there is no common format.
type Plane struct {
	formats  int
	gen      int // 0: it holds nothing
	held     table.Table
	coming   transfer
	noFormat bool
}

// New makes a dataplane that holds nothing (P10).
func New(formats int) *Plane {
	return &Plane{formats: formats}
}

// Restart lets it begin anew (P12).
func (p *Plane) Restart() {
	p.gen = 0
	p.held = table.Table{}
	p.coming = transfer{}
	p.noFormat = false
}

// Question tells what it asks (P11).
func (p *Plane) Question() wire.Question {
	return wire.Question{
		Held:    p.gen,
		Formats: p.formats,
		Coming:  p.coming.gen,
		Format:  p.coming.format,
		Missing: p.coming.missing(),
	}
}

// Take lets an answer come in (P12).
func (p *Plane) Take(a wire.Answer) {
	switch a.Kind {
	case wire.NoNews:
		p.noFormat = false
	case wire.NoFormat:
		p.noFormat = true
	case wire.Piece:
		p.takePiece(a)
	}
}

func (p *Plane) takePiece(a wire.Answer) {
	if !p.wants(a) {
		return
	}
	if a.Gen > p.coming.gen {
		p.coming = transfer{gen: a.Gen, format: a.Format, pieces: a.Pieces}
	}
	if a.Format != p.coming.format || a.Pieces != p.coming.pieces {
		return
	}
	p.noFormat = false
	p.coming.lay(piece{number: a.Number, bytes: a.Bytes})
	if p.coming.whole() {
		p.finish()
	}
}

// wants tells whether a piece is of use: of a table later than the one held and not earlier than the one coming, one of all its pieces, in a format that it speaks.
func (p *Plane) wants(a wire.Answer) bool {
	return a.Gen > p.gen && a.Gen >= p.coming.gen && a.Number < a.Pieces && a.Format&p.formats != 0
}

// finish ends what is coming, and holds its table if the pieces are what they were said to be.
func (p *Plane) finish() {
	done := p.coming
	p.coming = transfer{}
	image := done.image()
	m, ok := codec.ReadImage(image)
	if ok && m.Gen == done.gen && m.Format == done.format {
		p.gen = m.Gen
		p.held = m.Table
	}
}

// Held tells the generation held, 0: none; ErrFormat, if it has been told that there is no common format (P12).
func (p *Plane) Held() (int, api.Errno) {
	if p.noFormat {
		return p.gen, api.ErrFormat
	}
	return p.gen, api.OK
}

// Owner tells whose a key is by the table held (P12).
func (p *Plane) Owner(key string) (string, api.Errno) {
	if p.gen == 0 {
		return "", api.ErrNoTable
	}
	return p.held.Owner(key)
}

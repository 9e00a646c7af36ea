// Package wire writes and reads the frames between dataplanes and those who serve them, and cuts images into pieces.
package wire

import (
	"spread/bits"
	"spread/seal"
)

// Question is what a dataplane says when it asks: the generation held, its formats, the generation coming, in which format, and the number of the first piece that is missing.
type Question struct {
	Held    int
	Formats int
	Coming  int
	Format  int
	Missing int
}

// WriteQuestion tells a question's frame (P11).
func WriteQuestion(q Question) string {
	var w bits.Writer
	w.Text("Q")
	w.Int(q.Held, 4)
	w.Int(q.Formats, 1)
	w.Int(q.Coming, 4)
	w.Int(q.Format, 1)
	w.Int(q.Missing, 2)
	text := w.Done()
	return seal.Sealed(text)
}

// ReadQuestion tells what a frame asks; false: it is no question.
func ReadQuestion(frame string) (Question, bool) {
	text, sealed := seal.Opened(frame)
	if !sealed {
		return Question{}, false
	}
	r := bits.Read(text)
	letter := r.Text(1)
	var q Question
	q.Held = r.Int(4)
	q.Formats = r.Int(1)
	q.Coming = r.Int(4)
	q.Format = r.Int(1)
	q.Missing = r.Int(2)
	if letter != "Q" || !r.Over() {
		return Question{}, false
	}
	return q, true
}

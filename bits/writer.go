// Package bits lays numbers and texts one behind the other as bits, the high one first, and reads them again.
package bits

// Writer is what has been laid so far; a new one has nothing.
type Writer struct {
	bytes []byte
	last  byte // bits behind the whole bytes
	taken uint // how many these are: fewer than eight
}

// Number lays a number in so many bits.
func (w *Writer) Number(n uint64, width int) {
	for i := width - 1; i >= 0; i-- {
		w.bit(byte(n >> uint(i) & 1))
	}
}

// Int lays a number in so many bytes.
func (w *Writer) Int(n int, bytes int) {
	w.Number(uint64(n), 8*bytes)
}

// Text lays the bytes of a text.
func (w *Writer) Text(text string) {
	for i := 0; i < len(text); i++ {
		w.Number(uint64(text[i]), 8)
	}
}

// Done tells all that was laid; bits that are left in the last byte are 0.
func (w *Writer) Done() string {
	text := string(w.bytes)
	if w.taken > 0 {
		text += string([]byte{w.last << (8 - w.taken)})
	}
	return text
}

func (w *Writer) bit(b byte) {
	w.last = w.last<<1 | b
	w.taken++
	if w.taken == 8 {
		w.bytes = append(w.bytes, w.last)
		w.last = 0
		w.taken = 0
	}
}

package bits

// Reader is what has not been read yet. Behind the end it reads noughts, and knows that the text was too short.
type Reader struct {
	text  string
	taken uint // bits of the first byte that have been read: fewer than eight
	short bool
}

// Read begins at the beginning of a text.
func Read(text string) Reader {
	return Reader{text: text}
}

// Number reads a number of so many bits.
func (r *Reader) Number(width int) uint64 {
	var n uint64
	for i := 0; i < width; i++ {
		b := r.bit()
		n = n<<1 | uint64(b)
	}
	return n
}

// Int reads a number of so many bytes.
func (r *Reader) Int(bytes int) int {
	return int(r.Number(8 * bytes))
}

// Text reads so many bytes.
func (r *Reader) Text(bytes int) string {
	var list []byte
	for i := 0; i < bytes && !r.short; i++ {
		n := r.Number(8)
		list = append(list, byte(n))
	}
	return string(list)
}

// Short tells whether more has been asked for than there was.
func (r *Reader) Short() bool {
	return r.short
}

// Over tells whether the text was neither too short nor too long: all is read, but for bits of a last byte that are 0.
func (r *Reader) Over() bool {
	if r.short {
		return false
	}
	if r.taken == 0 {
		return len(r.text) == 0
	}
	return len(r.text) == 1 && r.text[0]<<r.taken == 0
}

func (r *Reader) bit() byte {
	if len(r.text) == 0 {
		r.short = true
		return 0
	}
	b := r.text[0] >> (7 - r.taken) & 1
	r.taken++
	if r.taken == 8 {
		r.text = r.text[1:]
		r.taken = 0
	}
	return b
}

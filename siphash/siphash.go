// Package siphash tells the hashes that tables and keys hang on: SipHash-2-4.
package siphash

type state struct {
	a, b, c, d uint64
}

// Hash tells HASH(letter, numbers, text) of the document, under a key.
func Hash(key string, letter byte, numbers []int, text string) uint64 {
	head := []byte{letter}
	for _, n := range numbers {
		head = append(head, byte(n>>8), byte(n))
	}
	return Sum(key, string(head)+text)
}

// Sum tells the hash of a text. A key has sixteen bytes; what it lacks counts as noughts, so that no key can panic.
func Sum(key string, text string) uint64 {
	s := begin(word(key, 0), word(key, 8))
	whole := len(text) - len(text)%8
	for i := 0; i < whole; i += 8 {
		s.take(word(text, i))
	}
	// The shift drops all of the length but what it is modulo 256.
	s.take(word(text, whole) | uint64(len(text))<<56)
	s.c ^= 255
	for i := 0; i < 4; i++ {
		s.round()
	}
	return s.a ^ s.b ^ s.c ^ s.d
}

func begin(k uint64, l uint64) state {
	return state{
		a: k ^ 0x736f6d6570736575,
		b: l ^ 0x646f72616e646f6d,
		c: k ^ 0x6c7967656e657261,
		d: l ^ 0x7465646279746573,
	}
}

// word reads eight bytes, the low one first; bytes behind the text's end are noughts, as the last word asks for.
func word(text string, from int) uint64 {
	var w uint64
	for i := 7; i >= 0; i-- {
		w <<= 8
		if from+i < len(text) {
			w |= uint64(text[from+i])
		}
	}
	return w
}

func (s *state) take(m uint64) {
	s.d ^= m
	s.round()
	s.round()
	s.a ^= m
}

func (s *state) round() {
	s.a += s.b
	s.b = turned(s.b, 13) ^ s.a
	s.a = turned(s.a, 32)
	s.c += s.d
	s.d = turned(s.d, 16) ^ s.c
	s.a += s.d
	s.d = turned(s.d, 21) ^ s.a
	s.c += s.b
	s.b = turned(s.b, 17) ^ s.c
	s.c = turned(s.c, 32)
}

func turned(w uint64, n uint) uint64 {
	return w<<n | w>>(64-n)
}

// Package seal lays sums behind texts, and tells whether they are right.
package seal

const size = 4 // bytes of a sum

// Sum tells the CRC-32 of a text.
func Sum(text string) uint32 {
	sum := uint32(0xFFFFFFFF)
	for i := 0; i < len(text); i++ {
		sum ^= uint32(text[i])
		for bit := 0; bit < 8; bit++ {
			sum = sum>>1 ^ 0xEDB88320*(sum&1)
		}
	}
	return sum ^ 0xFFFFFFFF
}

// Sealed tells a text with its sum behind.
func Sealed(text string) string {
	return text + behind(text)
}

// Opened tells what stands ahead of the sum; false: the text is not rightly sealed.
func Opened(text string) (string, bool) {
	if len(text) <= size {
		return "", false
	}
	body := text[:len(text)-size]
	if text[len(text)-size:] != behind(body) {
		return "", false
	}
	return body, true
}

// behind tells a text's sum as bytes, the low one first: the one number that stands so.
func behind(text string) string {
	sum := Sum(text)
	return string([]byte{byte(sum), byte(sum >> 8), byte(sum >> 16), byte(sum >> 24)})
}

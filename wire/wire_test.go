package wire_test

import (
	"math"
	"strings"
	"testing"

	"spread/api"
	"spread/wire"
)

func TestPieces(t *testing.T) {
	for size := range 5*api.Chunk + 2 {
		image := strings.Repeat("0123456789", size/10+1)[:size]
		n := wire.Count(image)
		whole := ""
		for i := range n {
			p := wire.Cut(image, i)
			if p == "" || i < n-1 && len(p) != api.Chunk || len(p) > api.Chunk {
				t.Errorf("P11: %d bytes: piece %d: %q", size, i, p)
			}
			whole += p
		}
		if whole != image {
			t.Errorf("P11: %d bytes: %d pieces: %q", size, n, whole)
		}
		for _, none := range []int{math.MinInt, -1, n, n + 1, math.MaxInt} {
			if p := wire.Cut(image, none); p != "" {
				t.Errorf("P11: %d bytes: piece %d: %q", size, none, p)
			}
		}
	}
}

func TestQuestionsThereAndBack(t *testing.T) {
	for _, q := range []wire.Question{
		{}, {Held: 1, Formats: 2, Coming: 3, Format: 4, Missing: 5},
		{Held: 1<<32 - 1, Formats: 255, Coming: 1<<32 - 2, Format: 254, Missing: 65535},
		{Held: 0x01020304, Formats: 3, Coming: 0x05060708, Format: 1, Missing: 0x090a},
	} {
		frame := wire.WriteQuestion(q)
		if got, ok := wire.ReadQuestion(frame); !ok || got != q {
			t.Errorf("P11: %+v: %x: %+v, %v", q, frame, got, ok)
		}
		if got, ok := wire.ReadAnswer(frame); ok || got != (wire.Answer{}) {
			t.Errorf("P12: a question reads as an answer: %+v", got)
		}
	}
}

func TestAnswersThereAndBack(t *testing.T) {
	for _, a := range []wire.Answer{
		{Kind: wire.NoNews}, {Kind: wire.NoFormat},
		{Kind: wire.Piece, Gen: 1, Format: 2, Pieces: 3, Number: 4, Bytes: "x"},
		{Kind: wire.Piece, Gen: 1<<32 - 1, Format: 255, Pieces: 65535, Number: 65534, Bytes: strings.Repeat("\xff", api.Chunk)},
		{Kind: wire.Piece, Gen: 0x01020304, Format: 1, Pieces: 0x0506, Number: 0x0708, Bytes: "\x00"},
	} {
		frame := wire.WriteAnswer(a)
		if got, ok := wire.ReadAnswer(frame); !ok || got != a {
			t.Errorf("P12: %+v: %x: %+v, %v", a, frame, got, ok)
		}
		if got, ok := wire.ReadQuestion(frame); ok || got != (wire.Question{}) {
			t.Errorf("P11: an answer reads as a question: %+v", got)
		}
	}
	for _, a := range []wire.Answer{
		{Kind: 3}, {Kind: 255}, {Kind: wire.Piece, Gen: 1, Format: 1, Pieces: 1}, {Kind: wire.Piece, Gen: 1, Format: 1, Pieces: 1, Bytes: strings.Repeat("x", api.Chunk+1)},
	} {
		if got, ok := wire.ReadAnswer(wire.WriteAnswer(a)); ok || got != (wire.Answer{}) {
			t.Errorf("P12: %+v: %+v, %v", a, got, ok)
		}
	}
}

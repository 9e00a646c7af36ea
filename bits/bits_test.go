package bits_test

import (
	"math"
	"testing"

	"spread/bits"
)

const whole = "ab\x00\x12\x34\x56\x80\x00\x00\x00\x00\x00\x00\x01"

func TestLaid(t *testing.T) {
	var w bits.Writer
	expectLaid(t, &w, "")
	w.Text("ab")
	w.Int(0x123456, 4)
	w.Number(0x8000000000000001, 64)
	expectLaid(t, &w, whole)
	w.Number(5, 3)
	expectLaid(t, &w, whole+"\xa0")
	w.Number(math.MaxUint64, 1)
	w.Number(0, 3)
	expectLaid(t, &w, whole+"\xb0")
	w.Text("\xff")
	expectLaid(t, &w, whole+"\xb1\xfe")
	w.Number(9, 1)
	expectLaid(t, &w, whole+"\xb1\xff")
	w.Number(1, 0)
	w.Text("")
	expectLaid(t, &w, whole+"\xb1\xff")
}

func expectLaid(t *testing.T, w *bits.Writer, want string) {
	t.Helper()
	if got := w.Done(); got != want {
		t.Errorf("%x, want %x", got, want)
	}
}

func TestRead(t *testing.T) {
	r := bits.Read(whole + "\xb1\xff")
	if got := r.Text(2); got != "ab" {
		t.Errorf("%q", got)
	}
	if got := r.Int(4); got != 0x123456 {
		t.Errorf("%x", got)
	}
	if got := r.Number(64); got != 0x8000000000000001 {
		t.Errorf("%x", got)
	}
	if a, b, c := r.Number(3), r.Number(1), r.Number(3); a != 5 || b != 1 || c != 0 {
		t.Errorf("%d %d %d", a, b, c)
	}
	if got := r.Text(1); got != "\xff" {
		t.Errorf("%q", got)
	}
	if got := r.Number(0); got != 0 || r.Over() || r.Short() {
		t.Errorf("%d", got)
	}
	if got := r.Number(1); got != 1 || !r.Over() || r.Short() {
		t.Errorf("%d, over: %v", got, r.Over())
	}
	r.Text(5)
	if r.Over() || !r.Short() {
		t.Errorf("behind the end: over: %v, short: %v", r.Over(), r.Short())
	}
}

func TestOver(t *testing.T) {
	for _, c := range []struct {
		text  string
		width int
		over  bool
		short bool
	}{
		{"", 0, true, false},
		{"", 1, false, true},
		{"\x00", 0, false, false},
		{"\x80", 1, true, false},
		{"\xff", 8, true, false},
		{"\xff", 9, false, true},
		{"\xfe", 7, true, false},
		{"\xff", 7, false, false},
		{"\xc0", 1, false, false},
		{"\x81", 1, false, false},
		{"\x80\x00", 1, false, false},
		{"\x80\x00", 8, false, false},
		{"\x80\x00", 9, true, false},
	} {
		r := bits.Read(c.text)
		r.Number(c.width)
		if r.Over() != c.over || r.Short() != c.short {
			t.Errorf("%x, %d bits: over %v, short %v", c.text, c.width, r.Over(), r.Short())
		}
	}
}

package siphash

import (
	"strings"
	"testing"
)

func counting(n int) string {
	b := make([]byte, n)
	for i := range b {
		b[i] = byte(i)
	}
	return string(b)
}

func TestValueOfTheDocument(t *testing.T) {
	if got := Sum(counting(16), counting(15)); got != 0xa129ca6149be45e5 {
		t.Errorf("got %#x", got)
	}
}

func TestLengths(t *testing.T) {
	for _, c := range []struct {
		length int
		want   uint64
	}{
		{0, 0x726fdb47dd0e0e31}, {1, 0x74f839c593dc67fd}, {2, 0x0d6c8009d9a94f5a}, {3, 0x85676696d7fb7e2d},
		{4, 0xcf2794e0277187b7}, {5, 0x18765564cd99a68d}, {6, 0xcbc9466e58fee3ce}, {7, 0xab0200f58b01d137},
		{8, 0x93f5f5799a932462}, {9, 0x9e0082df0ba9e4b0}, {10, 0x7a5dbbc594ddb9f3}, {14, 0xf723ca908e7af2ee},
		{15, 0xa129ca6149be45e5}, {16, 0x3f2acc7f57c29bdb}, {17, 0x699ae9f52cbe4794}, {23, 0xa80c038ccd5ccec8},
		{24, 0xb8ad50c6f649af94}, {25, 0xbce192de8a85b8ea}, {63, 0x958a324ceb064572},
		{255, 0xa9c169fec74db21a}, {256, 0x999d0526d2a7bfd7}, {257, 0x8a817b8d55b29748}, {263, 0x86d801b865760792},
	} {
		if got := Sum(counting(16), counting(c.length)); got != c.want {
			t.Errorf("length %d: got %#x, want %#x", c.length, got, c.want)
		}
	}
}

func TestHashIsOfLetterNumbersAndText(t *testing.T) {
	key := "0123456789abcdef"
	for _, c := range []struct {
		letter  byte
		numbers []int
		text    string
		whole   string
	}{
		{'k', nil, "", "k"},
		{'k', nil, "key0", "kkey0"},
		{'o', []int{}, "\x00\xff", "o\x00\xff"},
		{'r', []int{1}, "a", "r\x00\x01a"},
		{'h', []int{210, 5}, "name", "h\x00\xd2\x00\x05name"},
		{'h', []int{0x1234, 0xfedc}, "", "h\x12\x34\xfe\xdc"},
	} {
		if got, want := Hash(key, c.letter, c.numbers, c.text), Sum(key, c.whole); got != want {
			t.Errorf("%c %v %q: got %#x, want %#x", c.letter, c.numbers, c.text, got, want)
		}
	}
}

func TestEveryByteOfTheKeyCounts(t *testing.T) {
	key := []byte(counting(16))
	seen := map[uint64]bool{Sum(string(key), "x"): true}
	for i := range key {
		key[i] ^= 0x80
		h := Sum(string(key), "x")
		if seen[h] {
			t.Errorf("byte %d of the key does not count", i)
		}
		seen[h] = true
		key[i] ^= 0x80
	}
}

func TestWrongKeysDoNotPanic(t *testing.T) {
	for _, n := range []int{0, 1, 8, 15, 17, 100} {
		Sum(strings.Repeat("x", n), "text")
	}
}

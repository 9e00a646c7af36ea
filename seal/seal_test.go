package seal_test

import (
	"encoding/binary"
	"hash/crc32"
	"strings"
	"testing"

	"spread/seal"
)

var texts = []string{"a", "\x00", "\xff", "123456789", "CH", strings.Repeat("x", 1000), strings.Repeat("\x00\xff", 77)}

func TestSum(t *testing.T) {
	if got := seal.Sum("123456789"); got != 0xCBF43926 {
		t.Errorf("the document's example: %x", got)
	}
	for _, text := range append(texts, "") {
		if got, want := seal.Sum(text), crc32.ChecksumIEEE([]byte(text)); got != want {
			t.Errorf("%q: %x, want %x", text, got, want)
		}
	}
}

func TestSealed(t *testing.T) {
	if got := seal.Sealed("123456789"); got != "123456789\x26\x39\xf4\xcb" {
		t.Errorf("the low byte first: %x", got)
	}
	for _, text := range texts {
		sealed := seal.Sealed(text)
		if body, ok := seal.Opened(sealed); body != text || !ok {
			t.Errorf("%q: %q, %v", text, body, ok)
		}
		for i := range sealed {
			for _, x := range []byte{1, 0x10, 0x80, 0xff} {
				bent := []byte(sealed)
				bent[i] ^= x
				expectNone(t, string(bent))
			}
		}
		expectNone(t, sealed[1:])
		expectNone(t, sealed[:len(sealed)-1])
		expectNone(t, sealed+"\x00")
		expectNone(t, text+string(binary.BigEndian.AppendUint32(nil, seal.Sum(text))))
	}
}

func TestOneByteAtLeast(t *testing.T) {
	for _, text := range []string{"", "\x00", "\x00\x00\x00", "\x00\x00\x00\x00", "abcd", "abcde"} {
		expectNone(t, text)
	}
	if seal.Sealed("") != "\x00\x00\x00\x00" {
		t.Error("the empty text's sum is 0")
	}
	if body, ok := seal.Opened("\x00\x8d\xef\x02\xd2"); body != "\x00" || !ok {
		t.Errorf("one byte: %q, %v", body, ok)
	}
}

func expectNone(t *testing.T, text string) {
	t.Helper()
	if body, ok := seal.Opened(text); body != "" || ok {
		t.Errorf("%q is not rightly sealed: %q, %v", text, body, ok)
	}
}

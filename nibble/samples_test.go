package nibble_test

import (
	"bytes"
	"encoding/hex"
	"math/rand/v2"
	"strings"
	"testing"

	"bailiwick/api"
)

// draw makes numbers that look like any, and are the same ones in each run.
func draw(seed uint64) *rand.Rand {
	return rand.New(rand.NewPCG(seed, 13))
}

// same holds got against want, and tells of what they are.
func same[T comparable](t *testing.T, what string, got, want T, of ...any) {
	t.Helper()
	if got != want {
		t.Fatalf("%s of %v: got %v, want %v", what, of, got, want)
	}
}

// equal holds bytes against others.
func equal(t *testing.T, what string, got, want []byte, of ...any) {
	t.Helper()
	if !bytes.Equal(got, want) {
		t.Fatalf("%s of %v: got %s, want %s", what, of, digits(got), digits(want))
	}
}

// digits are b's, or those of its beginning.
func digits(b []byte) string {
	const most = 200
	text := hex.EncodeToString(b)
	if len(text) > most {
		return text[:most] + " .."
	}
	return text
}

// unhex is the bytes of hexadecimal digits, which may stand in groups.
func unhex(text string) []byte {
	b, err := hex.DecodeString(strings.ReplaceAll(text, " ", ""))
	if err != nil {
		panic(err)
	}
	return b
}

// each is a list of what every digit of a text stands for.
func each(text string) []byte {
	out := []byte{}
	for _, x := range text {
		out = append(out, byte(strings.IndexRune(hexDigits, x)))
	}
	return out
}

// counted is n bytes that count up; as 251 is a prime, no two blocks of them are alike.
func counted(n int) []byte {
	out := make([]byte, n)
	for i := range out {
		out[i] = byte(i % 251)
	}
	return out
}

// drawnBytes is n bytes, drawnNibbles n nibbles.
func drawnBytes(d *rand.Rand, n int) []byte {
	out := make([]byte, n)
	for i := range out {
		out[i] = byte(d.IntN(256))
	}
	return out
}

func drawnNibbles(d *rand.Rand, n int) []byte {
	out := drawnBytes(d, n)
	for i := range out {
		out[i] %= 16
	}
	return out
}

// sizes are those of keys and paths, and some others.
func sizes() []int {
	return []int{0, 1, 2, 3, 4, 5, 7, 8, 9, 19, 20, 31, 32, 33, 39, 40, 63, 64, 65, 66, 127, 128, 129, 1000, 4095, 4097, 65537}
}

// all does work with all lists of so many bytes below so much.
func all(many, below int, work func(b []byte)) {
	b := make([]byte, many)
	for {
		work(bytes.Clone(b))
		i := 0
		for i < many && int(b[i]) == below-1 {
			b[i] = 0
			i++
		}
		if i == many {
			return
		}
		b[i]++
	}
}

// asBytes holds what Bytes answers of n against the chapter's words.
func asBytes(t *testing.T, got []byte, e api.Errno, n []byte) {
	t.Helper()
	want, wrong := toldBytes(n)
	same(t, "the error of Bytes", e, wrong, digits(n))
	equal(t, "Bytes", got, want, digits(n))
}

// asPack holds what Pack answers of n.
func asPack(t *testing.T, got []byte, e api.Errno, n []byte, leaf bool) {
	t.Helper()
	want, wrong := toldPack(n, leaf)
	same(t, "Pack's error", e, wrong, digits(n), leaf)
	equal(t, "Pack", got, want, digits(n), leaf)
}

// asUnpack holds what Unpack answers of b.
func asUnpack(t *testing.T, got []byte, leaf bool, e api.Errno, b []byte) {
	t.Helper()
	want, wantLeaf, wrong := toldUnpack(b)
	same(t, "Unpack's error", e, wrong, digits(b))
	same(t, "whether Unpack tells a leaf", leaf, wantLeaf, digits(b))
	equal(t, "Unpack", got, want, digits(b))
}

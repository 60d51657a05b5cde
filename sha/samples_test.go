package sha_test

import (
	"encoding/hex"
	"math/rand/v2"
	"slices"
	"testing"

	"bailiwick/api"
)

// edges are lengths round those at which a further block begins or is needed.
var edges = []int{0, 1, 54, 55, 56, 57, 62, 63, 64, 65, 66, 118, 119, 120, 121, 126, 127, 128, 129, 183, 184, 191, 192, 193}

// draw makes numbers that look like any, and are the same ones in each run.
func draw(seed uint64) *rand.Rand {
	return rand.New(rand.NewPCG(seed, 4))
}

// drawn is n bytes that look like any.
func drawn(d *rand.Rand, n int) []byte {
	out := make([]byte, n)
	for i := range out {
		out[i] = byte(d.Uint32())
	}
	return out
}

// counted is n bytes that count up; as 251 is a prime, no two blocks of them are alike.
func counted(n int) []byte {
	out := make([]byte, n)
	for i := range out {
		out[i] = byte(i % 251)
	}
	return out
}

// roomy is b in a list with spare room that holds something.
func roomy(b []byte) []byte {
	return append(slices.Clone(b), counted(200)...)[:len(b)]
}

// scribble writes over b and its spare room.
func scribble(b []byte) {
	b = b[:cap(b)]
	for i := range b {
		b[i] ^= 0xff
	}
}

// same holds got against want, and tells of what they are.
func same(t *testing.T, what string, got, want api.Hash, of ...any) {
	t.Helper()
	if got != want {
		t.Fatalf("%s of %v: got %x, want %x", what, of, got, want)
	}
}

// hash is the hash of 64 hexadecimal digits.
func hash(t *testing.T, digits string) api.Hash {
	t.Helper()
	b, err := hex.DecodeString(digits)
	if err != nil {
		t.Fatal(err)
	}
	return api.Hash(b)
}

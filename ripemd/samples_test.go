package ripemd_test

import (
	"encoding/hex"
	"math"
	"math/rand/v2"
	"slices"
	"testing"
)

// edges are lengths round those at which a further block begins or is needed.
var edges = []int{0, 1, 54, 55, 56, 57, 62, 63, 64, 65, 66, 118, 119, 120, 121, 126, 127, 128, 129, 183, 184, 191, 192, 193}

// draw makes numbers that look like any, and are the same ones in each run.
func draw(seed uint64) *rand.Rand {
	return rand.New(rand.NewPCG(seed, 5))
}

// drawn is n bytes that look like any.
func drawn(d *rand.Rand, n int) []byte {
	out := make([]byte, n)
	for i := range out {
		out[i] = byte(d.Uint32())
	}
	return out
}

// counted is n bytes that count up; as 251 is a prime, no two blocks of them are alike.
func counted(n int) []byte {
	out := make([]byte, n)
	for i := range out {
		out[i] = byte(i % 251)
	}
	return out
}

// roomy is b in a list with spare room that holds something.
func roomy(b []byte) []byte {
	return append(slices.Clone(b), counted(200)...)[:len(b)]
}

// scribble writes over b and its spare room.
func scribble(b []byte) {
	b = b[:cap(b)]
	for i := range b {
		b[i] ^= 0xff
	}
}

// filled is 64 bytes x.
func filled(x byte) [64]byte {
	var out [64]byte
	for i := range out {
		out[i] = x
	}
	return out
}

// fives are five numbers: noughts, ones, each single bit, and some of any bits and of those at the end of what a number can be.
func fives() [][5]uint32 {
	d := draw(1)
	out := [][5]uint32{{}, {math.MaxUint32, math.MaxUint32, math.MaxUint32, math.MaxUint32, math.MaxUint32}}
	for i := range 160 {
		var h [5]uint32
		h[i/32] = 1 << (i % 32)
		out = append(out, h)
	}
	for range 400 {
		var h [5]uint32
		for i := range h {
			ends := []uint32{0, 1, 1 << 31, math.MaxUint32, math.MaxUint32 - 1, math.MaxInt32, d.Uint32(), d.Uint32()}
			h[i] = ends[d.IntN(len(ends))]
		}
		out = append(out, h)
	}
	return out
}

// blocks are 64 bytes: all alike, each single bit, and some of any bits.
func blocks() [][64]byte {
	d := draw(2)
	out := [][64]byte{{}, filled(0xff), filled(0x80), filled(0x01), filled(0x7f), [64]byte(counted(64))}
	for i := range 512 {
		var b [64]byte
		b[i/8] = 1 << (i % 8)
		out = append(out, b)
	}
	for range 400 {
		out = append(out, [64]byte(drawn(d, 64)))
	}
	return out
}

// same holds got against want, and tells of what they are.
func same[T comparable](t *testing.T, what string, got, want T, of ...any) {
	t.Helper()
	if got != want {
		t.Fatalf("%s of %v: got %x, want %x", what, of, any(got), any(want))
	}
}

// hash is the hash of 40 hexadecimal digits.
func hash(t *testing.T, digits string) [20]byte {
	t.Helper()
	b, err := hex.DecodeString(digits)
	if err != nil || len(b) != 20 {
		t.Fatalf("%q is no hash", digits)
	}
	return [20]byte(b)
}

package keccak_test

import (
	"encoding/hex"
	"math"
	"math/rand/v2"
	"slices"
	"testing"

	"bailiwick/api"
)

// draw makes numbers that look like any, and are the same ones in each run.
func draw(seed uint64) *rand.Rand {
	return rand.New(rand.NewPCG(seed, 3))
}

// counted is n bytes that count up; as 251 is a prime, no two blocks of them are alike.
func counted(n int) []byte {
	out := make([]byte, n)
	for i := range out {
		out[i] = byte(i % 251)
	}
	return out
}

// roomy is b in a list with spare room that holds something.
func roomy(b []byte) []byte {
	return append(slices.Clone(b), counted(200)...)[:len(b)]
}

// scribble writes over b and its spare room.
func scribble(b []byte) {
	for i := range b[:cap(b)] {
		b[:cap(b)][i] ^= math.MaxUint8
	}
}

// singles are the states of which one bit is 1.
func singles() [][25]uint64 {
	var out [][25]uint64
	for i := range 25 {
		for j := range 64 {
			var s [25]uint64
			s[i] = 1 << j
			out = append(out, s)
		}
	}
	return out
}

// states are noughts, ones, and some of any bits and of lanes at the end of what a lane can be.
func states() [][25]uint64 {
	d := draw(1)
	out := make([][25]uint64, 402)
	for i := range out[1:] {
		for j := range out[0] {
			ends := []uint64{0, 1, 1 << 63, math.MaxUint64, math.MaxUint64 - 1, math.MaxInt64, d.Uint64(), d.Uint64()}
			out[i+1][j] = ends[d.IntN(len(ends))]
		}
	}
	for j := range out[1] {
		out[1][j] = math.MaxUint64
	}
	return out
}

// same holds got against want, and tells of what they are.
func same[T comparable](t *testing.T, what string, got, want T, of ...any) {
	t.Helper()
	if got != want {
		t.Fatalf("%s of %v: got %v, want %v", what, of, got, want)
	}
}

// hash is the hash of 64 hexadecimal digits.
func hash(t *testing.T, digits string) api.Hash {
	t.Helper()
	b, err := hex.DecodeString(digits)
	if err != nil {
		t.Fatal(err)
	}
	return api.Hash(b)
}

package blake_test

import (
	"encoding/hex"
	"math"
	"math/rand/v2"
	"slices"
	"testing"

	"bailiwick/blake"
)

// given is what F is given.
type given struct {
	rounds uint32
	h      [8]uint64
	m      [16]uint64
	t      [2]uint64
	last   bool
}

// f is F of it.
func (x given) f() [8]uint64 {
	return blake.F(x.rounds, x.h, x.m, x.t, x.last)
}

// abc is what F is given for the hash of "abc".
func abc() given {
	x := given{rounds: 12, h: roots, m: [16]uint64{0x636261}, t: [2]uint64{3}, last: true}
	x.h[0] ^= 0x01010040
	return x
}

// rising is numbers from 1 on.
func rising() given {
	x := given{rounds: 12, t: [2]uint64{17, 18}}
	for i := range x.m {
		x.m[i] = uint64(i + 1)
	}
	copy(x.h[:], x.m[:])
	return x
}

// ones is numbers whose bits are all set.
func ones() given {
	x := given{rounds: 12, last: true}
	x.change(func() uint64 { return math.MaxUint64 })
	return x
}

// change puts what a function tells in the place of each number.
func (x *given) change(to func() uint64) {
	for _, numbers := range [][]uint64{x.h[:], x.m[:], x.t[:]} {
		for i := range numbers {
			numbers[i] = to()
		}
	}
}

// allBits is how many bits the numbers have in all: those of h, then of m, then of t.
const allBits = 64 * (8 + 16 + 2)

// flip turns about one bit of all.
func (x *given) flip(bit int) {
	for _, numbers := range [][]uint64{x.h[:], x.m[:], x.t[:]} {
		if bit < 64*len(numbers) {
			numbers[bit/64] ^= 1 << (bit % 64)
			return
		}
		bit -= 64 * len(numbers)
	}
}

// draw makes numbers that look like any, and are the same ones in each run.
func draw(seed uint64) *rand.Rand {
	return rand.New(rand.NewPCG(seed, 6))
}

// drawn is numbers that look like any.
func drawn(d *rand.Rand) given {
	x := given{rounds: d.Uint32N(30), last: d.IntN(2) == 1}
	x.change(func() uint64 { return d.Uint64() })
	return x
}

// drawnAtEnds is numbers of which many are at the ends of what a number can be.
func drawnAtEnds(d *rand.Rand) given {
	ends := []uint64{0, 1, 1 << 31, math.MaxUint32, 1 << 32, math.MaxInt64, 1 << 63, math.MaxUint64 - 1, math.MaxUint64}
	x := given{rounds: d.Uint32N(30), last: d.IntN(2) == 1}
	x.change(func() uint64 {
		if d.IntN(4) == 0 {
			return d.Uint64()
		}
		return ends[d.IntN(len(ends))]
	})
	return x
}

// counted is n bytes that count up; as 251 is a prime, no two blocks of them are alike.
func counted(n int) []byte {
	out := make([]byte, n)
	for i := range out {
		out[i] = byte(i % 251)
	}
	return out
}

// roomy is b in a list with spare room that holds something.
func roomy(b []byte) []byte {
	return append(slices.Clone(b), counted(300)...)[:len(b)]
}

// scribble writes over b and its spare room.
func scribble(b []byte) {
	b = b[:cap(b)]
	for i := range b {
		b[i] ^= 0xff
	}
}

// same holds got against want, and tells of what they are.
func same[T comparable](t *testing.T, what string, got, want T, of ...any) {
	t.Helper()
	if got != want {
		t.Fatalf("%s of %v: got %x, want %x", what, of, any(got), any(want))
	}
}

// digits are the hexadecimal digits of eight numbers, the lowest byte of each first.
func digits(h [8]uint64) string {
	return hex.EncodeToString(asBytes(h[:]...))
}

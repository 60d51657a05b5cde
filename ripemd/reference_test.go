package ripemd_test

import (
	"encoding/binary"
	"math/big"
	"math/bits"
	"slices"
	"strings"
)

// The chapter's words, its constants reckoned from roots and its places from rho: what the package tells is held against them.

// rootRaised is the root of n, of some degree, times 2^30, without its fraction.
func rootRaised(n int64, degree int) uint32 {
	raised := new(big.Int).Lsh(big.NewInt(n), uint(30*degree))
	root := new(big.Int)
	for bit := 31; bit >= 0; bit-- {
		root.SetBit(root, bit, 1)
		if new(big.Int).Exp(root, big.NewInt(int64(degree)), nil).Cmp(raised) > 0 {
			root.SetBit(root, bit, 0)
		}
	}
	return uint32(root.Uint64())
}

// added are the constants of both lines, by q: the square roots and the cube roots of 2, 3, 5, 7, and none.
var added = func() [2][5]uint32 {
	var out [2][5]uint32
	for i, prime := range []int64{2, 3, 5, 7} {
		out[0][i+1] = rootRaised(prime, 2)
		out[1][i] = rootRaised(prime, 3)
	}
	return out
}()

// bitsOf are the bits of a place, by q, a hexadecimal digit each.
var bitsOf = [5]string{
	"befc5879bdef6798",
	"cdbf6997cfbd7877",
	"dfeb7768dedc5569",
	"ebce8655fcfe9986",
	"fcdd9586ebcb8655",
}

// placeOf is the place of the step k of the row q of a line.
func placeOf(line, q, k int) int {
	const rho = "74d1a6f3c0952eb8"
	if q > 0 {
		return digit(rho, placeOf(line, q-1, k))
	}
	if line == 0 {
		return k
	}
	return (9*k + 5) % 16
}

// digit is what the hexadecimal digit at a place of a text tells.
func digit(text string, place int) int {
	return strings.IndexByte("0123456789abcdef", text[place])
}

// fOf is f of q.
func fOf(q int, b, c, d uint32) uint32 {
	return []uint32{
		b ^ c ^ d,
		(b & c) | (^b & d),
		(b | ^c) ^ d,
		(b & d) | (c & ^d),
		b ^ (c | ^d),
	}[q]
}

// lineOf is h behind the 80 steps of a line.
func lineOf(line int, h [5]uint32, b [64]byte) [5]uint32 {
	for j := range 80 {
		q := j / 16
		place := placeOf(line, q, j%16)
		f := fOf(q, h[1], h[2], h[3])
		if line == 1 {
			f = fOf(4-q, h[1], h[2], h[3])
		}
		t := h[0] + f + binary.LittleEndian.Uint32(b[4*place:]) + added[line][q]
		t = bits.RotateLeft32(t, digit(bitsOf[q], place)) + h[4]
		h = [5]uint32{h[4], t, h[1], bits.RotateLeft32(h[2], 10), h[3]}
	}
	return h
}

// blocked is what Block of h and b should be.
func blocked(h [5]uint32, b [64]byte) [5]uint32 {
	one, two := lineOf(0, h, b), lineOf(1, h, b)
	return [5]uint32{
		h[1] + one[2] + two[3],
		h[2] + one[3] + two[4],
		h[3] + one[4] + two[0],
		h[4] + one[0] + two[1],
		h[0] + one[1] + two[2],
	}
}

// begun are the five numbers as they begin.
var begun = [5]uint32{0x67452301, 0xefcdab89, 0x98badcfe, 0x10325476, 0xc3d2e1f0}

// padded is b, a byte 80, noughts, and how many bits b has.
func padded(b []byte) []byte {
	out := append(slices.Clone(b), 0x80)
	for (len(out)+8)%64 != 0 {
		out = append(out, 0)
	}
	return binary.LittleEndian.AppendUint64(out, 8*uint64(len(b)))
}

// goneThrough is h behind all blocks of b, each taken in by a function.
func goneThrough(h [5]uint32, b []byte, block func([5]uint32, [64]byte) [5]uint32) [5]uint32 {
	for part := range slices.Chunk(b, 64) {
		h = block(h, [64]byte(part))
	}
	return h
}

// asBytes is the five numbers, the lowest byte of each first.
func asBytes(h [5]uint32) [20]byte {
	var out []byte
	for _, x := range h {
		out = binary.LittleEndian.AppendUint32(out, x)
	}
	return [20]byte(out)
}

// asNumbers are the five numbers whose bytes a hash is.
func asNumbers(hash [20]byte) [5]uint32 {
	var out [5]uint32
	for i := range out {
		out[i] = binary.LittleEndian.Uint32(hash[4*i:])
	}
	return out
}

// hashed is what Sum of b should be.
func hashed(b []byte) [20]byte {
	return asBytes(goneThrough(begun, padded(b), blocked))
}

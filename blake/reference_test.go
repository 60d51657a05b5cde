package blake_test

import (
	"encoding/binary"
	"math"
	"math/big"
	"math/bits"
	"strings"
)

// The chapter's words, its numbers reckoned from roots and its places read from text: what the package tells is held against them.

// rows are the rows of places, a hexadecimal digit each.
const rows = "0123456789abcdef" + "ea489fd61c02b753" + "b8c052fdae367194" + "7931dcbe265a40f8" + "905724afe1bc683d" +
	"2c6a0b834d75fe19" + "c51fed4a0763928b" + "db7ec13950f4862a" + "6fe9b308c2d714a5" + "a2847615fb9e3cd0"

// fours are which of the 16 numbers each mix of a round changes: the columns, then the diagonals.
const fours = "048c" + "159d" + "26ae" + "37bf" + "05af" + "16bc" + "278d" + "349e"

// digit is what the hexadecimal digit at a place of a text tells.
func digit(text string, place int) int {
	return strings.IndexByte("0123456789abcdef", text[place])
}

// roots are the first 64 bits of the fractions of the square roots of the first eight primes.
var roots = func() [8]uint64 {
	var out [8]uint64
	for i, prime := range []int64{2, 3, 5, 7, 11, 13, 17, 19} {
		root := new(big.Int).Lsh(big.NewInt(prime), 128)
		root.Sqrt(root)
		out[i] = root.And(root, new(big.Int).SetUint64(math.MaxUint64)).Uint64()
	}
	return out
}()

// mixedInto is v behind the mix k of the round i.
func mixedInto(v [16]uint64, m [16]uint64, i, k int) [16]uint64 {
	row := rows[16*(i%10):]
	x, y := m[digit(row, 2*k)], m[digit(row, 2*k+1)]
	a, b, c, d := digit(fours, 4*k), digit(fours, 4*k+1), digit(fours, 4*k+2), digit(fours, 4*k+3)
	v[a] = v[a] + v[b] + x
	v[d] = bits.RotateLeft64(v[d]^v[a], 32)
	v[c] = v[c] + v[d]
	v[b] = bits.RotateLeft64(v[b]^v[c], 40)
	v[a] = v[a] + v[b] + y
	v[d] = bits.RotateLeft64(v[d]^v[a], 48)
	v[c] = v[c] + v[d]
	v[b] = bits.RotateLeft64(v[b]^v[c], 1)
	return v
}

// told is what F should be.
func told(x given) [8]uint64 {
	var v [16]uint64
	for i := range 8 {
		v[i], v[i+8] = x.h[i], roots[i]
	}
	v[12], v[13] = v[12]^x.t[0], v[13]^x.t[1]
	if x.last {
		v[14] ^= math.MaxUint64
	}
	for i := 0; i < int(x.rounds) && i < 65536; i++ {
		for k := range 8 {
			v = mixedInto(v, x.m, i, k)
		}
	}
	var out [8]uint64
	for i := range out {
		out[i] = x.h[i] ^ v[i] ^ v[i+8]
	}
	return out
}

// asBytes is numbers, the lowest byte of each first.
func asBytes(numbers ...uint64) []byte {
	var out []byte
	for _, x := range numbers {
		out = binary.LittleEndian.AppendUint64(out, x)
	}
	return out
}

// written is what Call should be given for F of x.
func written(x given) []byte {
	out := binary.BigEndian.AppendUint32(nil, x.rounds)
	out = append(out, asBytes(x.h[:]...)...)
	out = append(out, asBytes(x.m[:]...)...)
	out = append(out, asBytes(x.t[:]...)...)
	if x.last {
		return append(out, 1)
	}
	return append(out, 0)
}

// hashed is BLAKE2b's hash of b, made by F.
func hashed(b []byte) []byte {
	h := roots
	h[0] ^= 0x01010040
	for at := 0; ; at += 128 {
		left := b[at:]
		x := given{rounds: 12, h: h, t: [2]uint64{uint64(at + min(len(left), 128))}, last: len(left) <= 128}
		var block [128]byte
		copy(block[:], left)
		for i := range x.m {
			x.m[i] = binary.LittleEndian.Uint64(block[8*i:])
		}
		h = x.f()
		if x.last {
			return asBytes(h[:]...)
		}
	}
}

package sha_test

import (
	"encoding/binary"
	"math/big"
	"math/bits"
	"slices"
)

// The chapter's words, its numbers reckoned from the primes: what the package tells is held against them.

// primes are the first n primes.
func primes(n int) []int64 {
	var out []int64
	for p := int64(2); len(out) < n; p++ {
		if !slices.ContainsFunc(out, func(q int64) bool { return p%q == 0 }) {
			out = append(out, p)
		}
	}
	return out
}

// rootFraction is the first 32 bits of the fraction of the root of p, of some degree.
func rootFraction(p int64, degree int) uint32 {
	raised := new(big.Int).Lsh(big.NewInt(p), uint(32*degree))
	power := big.NewInt(int64(degree))
	root := new(big.Int)
	for bit := 40; bit >= 0; bit-- {
		root.SetBit(root, bit, 1)
		if new(big.Int).Exp(root, power, nil).Cmp(raised) > 0 {
			root.SetBit(root, bit, 0)
		}
	}
	return uint32(root.Uint64())
}

// rootFractions are those of the first n primes.
func rootFractions(n, degree int) []uint32 {
	var out []uint32
	for _, p := range primes(n) {
		out = append(out, rootFraction(p, degree))
	}
	return out
}

var (
	squareRoots = rootFractions(8, 2)
	cubeRoots   = rootFractions(64, 3)
)

// padded is b, a byte 80, noughts, and how many bits b has.
func padded(b []byte) []byte {
	out := append(slices.Clone(b), 0x80)
	for (len(out)+8)%64 != 0 {
		out = append(out, 0)
	}
	return binary.BigEndian.AppendUint64(out, 8*uint64(len(b)))
}

// mixed is the eight numbers behind 64 bytes.
func mixed(eight [8]uint32, block []byte) [8]uint32 {
	down := func(x uint32, n int) uint32 { return bits.RotateLeft32(x, 32-n) }
	var w []uint32
	for four := range slices.Chunk(block, 4) {
		w = append(w, binary.BigEndian.Uint32(four))
	}
	for n := 16; n < 64; n++ {
		two, fifteen := w[n-2], w[n-15]
		s1 := down(two, 17) ^ down(two, 19) ^ two>>10
		s0 := down(fifteen, 7) ^ down(fifteen, 18) ^ fifteen>>3
		w = append(w, s1+w[n-7]+s0+w[n-16])
	}
	next := eight
	for n := range 64 {
		a, b, c, d, e, f, g, h := next[0], next[1], next[2], next[3], next[4], next[5], next[6], next[7]
		t := h + (down(e, 6) ^ down(e, 11) ^ down(e, 25)) + ((e & f) ^ (^e & g)) + cubeRoots[n] + w[n]
		u := (down(a, 2) ^ down(a, 13) ^ down(a, 22)) + ((a & b) ^ (a & c) ^ (b & c))
		next = [8]uint32{t + u, a, b, c, d + t, e, f, g}
	}
	for i := range eight {
		eight[i] += next[i]
	}
	return eight
}

// hashed is what Sum of b should be.
func hashed(b []byte) [32]byte {
	eight := [8]uint32(squareRoots)
	for block := range slices.Chunk(padded(b), 64) {
		eight = mixed(eight, block)
	}
	var out []byte
	for _, x := range eight {
		out = binary.BigEndian.AppendUint32(out, x)
	}
	return [32]byte(out)
}

// keyed is what HMAC of a key and b should be.
func keyed(key, b []byte) [32]byte {
	if len(key) > 64 {
		h := hashed(key)
		key = h[:]
	}
	var inner, outer []byte
	for _, x := range append(slices.Clone(key), make([]byte, 64-len(key))...) {
		inner = append(inner, x^0x36)
		outer = append(outer, x^0x5c)
	}
	within := hashed(append(inner, b...))
	return hashed(append(outer, within[:]...))
}

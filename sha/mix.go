package sha

import (
	"math/bits"

	"bailiwick/api"
)

// blockSize is how many bytes are mixed into a hash at a time.
const blockSize = 64

// block is what is mixed into a hash at a time.
type block [blockSize]byte

// numbers are the eight of which a hash is made.
type numbers [8]uint32

// rounds are the first 32 bits of the fractions of the cube roots of the first 64 primes.
var rounds = [64]uint32{
	0x428a2f98, 0x71374491, 0xb5c0fbcf, 0xe9b5dba5, 0x3956c25b, 0x59f111f1, 0x923f82a4, 0xab1c5ed5,
	0xd807aa98, 0x12835b01, 0x243185be, 0x550c7dc3, 0x72be5d74, 0x80deb1fe, 0x9bdc06a7, 0xc19bf174,
	0xe49b69c1, 0xefbe4786, 0x0fc19dc6, 0x240ca1cc, 0x2de92c6f, 0x4a7484aa, 0x5cb0a9dc, 0x76f988da,
	0x983e5152, 0xa831c66d, 0xb00327c8, 0xbf597fc7, 0xc6e00bf3, 0xd5a79147, 0x06ca6351, 0x14292967,
	0x27b70a85, 0x2e1b2138, 0x4d2c6dfc, 0x53380d13, 0x650a7354, 0x766a0abb, 0x81c2c92e, 0x92722c85,
	0xa2bfe8a1, 0xa81a664b, 0xc24b8b70, 0xc76c51a3, 0xd192e819, 0xd6990624, 0xf40e3585, 0x106aa070,
	0x19a4c116, 0x1e376c08, 0x2748774c, 0x34b0bcb5, 0x391c0cb3, 0x4ed8aa4a, 0x5b9cca4f, 0x682e6ff3,
	0x748f82ee, 0x78a5636f, 0x84c87814, 0x8cc70208, 0x90befffa, 0xa4506ceb, 0xbef9a3f7, 0xc67178f2,
}

// beginning is the first 32 bits of the fractions of the square roots of the first eight primes.
func beginning() numbers {
	return numbers{
		0x6a09e667, 0xbb67ae85, 0x3c6ef372, 0xa54ff53a, 0x510e527f, 0x9b05688c, 0x1f83d9ab, 0x5be0cd19,
	}
}

// mix mixes a block into the eight numbers.
func (n *numbers) mix(from block) {
	words := from.spread()
	a, b, c, d, e, f, g, h := n[0], n[1], n[2], n[3], n[4], n[5], n[6], n[7]
	for i, w := range words {
		t := h + turned(e, 6, 11, 25) + (e&f ^ g&^e) + rounds[i] + w
		u := turned(a, 2, 13, 22) + (a&b ^ a&c ^ b&c)
		a, b, c, d, e, f, g, h = t+u, a, b, c, d+t, e, f, g
	}
	for i, x := range [8]uint32{a, b, c, d, e, f, g, h} {
		n[i] += x
	}
}

// spread is the 16 numbers of a block, and 48 further ones made of them.
func (b block) spread() [64]uint32 {
	var w [64]uint32
	for i := range 16 {
		w[i] = number(b[4*i : 4*i+4])
	}
	for i := 16; i < len(w); i++ {
		w[i] = shifted(w[i-2], 17, 19, 10) + w[i-7] + shifted(w[i-15], 7, 18, 3) + w[i-16]
	}
	return w
}

// turned is x turned down by three numbers of bits, xored.
func turned(x uint32, one, two, three int) uint32 {
	return down(x, one) ^ down(x, two) ^ down(x, three)
}

// shifted is x turned down by two numbers of bits and shifted down by a third, xored.
func shifted(x uint32, one, two, by int) uint32 {
	return down(x, one) ^ down(x, two) ^ x>>by
}

// down is x turned down by some bits.
func down(x uint32, by int) uint32 {
	return bits.RotateLeft32(x, -by)
}

// number is that of four bytes, the highest first.
func number(b []byte) uint32 {
	return uint32(b[0])<<24 | uint32(b[1])<<16 | uint32(b[2])<<8 | uint32(b[3])
}

// bytes are those of the eight numbers, the highest of each first.
func (n numbers) bytes() api.Hash {
	var out api.Hash
	for i := range out {
		out[i] = byte(n[i/4] >> (24 - i%4*8))
	}
	return out
}

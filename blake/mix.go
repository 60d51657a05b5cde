package blake

import "math/bits"

// mostRounds is how many rounds are done at most.
const mostRounds = 1 << 16

// places are those of the 16 numbers in the order in which a round mixes them in, by the round.
var places = [10][16]int{
	{0, 1, 2, 3, 4, 5, 6, 7, 8, 9, 10, 11, 12, 13, 14, 15},
	{14, 10, 4, 8, 9, 15, 13, 6, 1, 12, 0, 2, 11, 7, 5, 3},
	{11, 8, 12, 0, 5, 2, 15, 13, 10, 14, 3, 6, 7, 1, 9, 4},
	{7, 9, 3, 1, 13, 12, 11, 14, 2, 6, 5, 10, 4, 0, 15, 8},
	{9, 0, 5, 7, 2, 4, 10, 15, 14, 1, 11, 12, 6, 8, 3, 13},
	{2, 12, 6, 10, 0, 11, 8, 3, 4, 13, 7, 5, 15, 14, 1, 9},
	{12, 5, 1, 15, 14, 13, 4, 10, 0, 7, 6, 3, 9, 2, 8, 11},
	{13, 11, 7, 14, 12, 1, 3, 9, 5, 0, 15, 4, 8, 6, 2, 10},
	{6, 15, 14, 9, 11, 3, 0, 8, 12, 2, 13, 7, 1, 4, 10, 5},
	{10, 2, 8, 4, 7, 6, 1, 5, 15, 11, 9, 14, 3, 12, 13, 0},
}

// numbers are the 16 that the rounds change.
type numbers [16]uint64

// F is h with the 16 numbers of m mixed in.
func F(rounds uint32, h [8]uint64, m [16]uint64, t [2]uint64, last bool) [8]uint64 {
	v := beginning(h, t, last)
	for i := range min(rounds, mostRounds) {
		v.round(inOrder(m, places[i%10]))
	}
	for i := range h {
		h[i] ^= v[i] ^ v[i+8]
	}
	return h
}

// beginning is the 16 numbers ahead of all rounds: h, then the first 64 bits of the fractions of the square roots of the first eight primes, with t and last worked in.
func beginning(h [8]uint64, t [2]uint64, last bool) numbers {
	v := numbers{
		8: 0x6a09e667f3bcc908, 0xbb67ae8584caa73b, 0x3c6ef372fe94f82b, 0xa54ff53a5f1d36f1,
		0x510e527fade682d1, 0x9b05688c2b3e6c1f, 0x1f83d9abfb41bd6b, 0x5be0cd19137e2179,
	}
	copy(v[:], h[:])
	v[12] ^= t[0]
	v[13] ^= t[1]
	if last {
		v[14] = ^v[14]
	}
	return v
}

// inOrder is m in the order of a row of places.
func inOrder(m [16]uint64, row [16]int) [16]uint64 {
	var out [16]uint64
	for i, place := range row {
		out[i] = m[place]
	}
	return out
}

// round mixes 16 numbers into v: two into each column, and two into each diagonal.
func (v *numbers) round(m [16]uint64) {
	mix(&v[0], &v[4], &v[8], &v[12], m[0], m[1])
	mix(&v[1], &v[5], &v[9], &v[13], m[2], m[3])
	mix(&v[2], &v[6], &v[10], &v[14], m[4], m[5])
	mix(&v[3], &v[7], &v[11], &v[15], m[6], m[7])
	mix(&v[0], &v[5], &v[10], &v[15], m[8], m[9])
	mix(&v[1], &v[6], &v[11], &v[12], m[10], m[11])
	mix(&v[2], &v[7], &v[8], &v[13], m[12], m[13])
	mix(&v[3], &v[4], &v[9], &v[14], m[14], m[15])
}

// mix mixes two numbers into four.
func mix(a, b, c, d *uint64, x, y uint64) {
	*a += *b + x
	*d = down(*d^*a, 32)
	*c += *d
	*b = down(*b^*c, 24)
	*a += *b + y
	*d = down(*d^*a, 16)
	*c += *d
	*b = down(*b^*c, 63)
}

// down is x turned down by some bits.
func down(x uint64, by int) uint64 {
	return bits.RotateLeft64(x, -by)
}

package keccak_test

import (
	"encoding/binary"
	"math/bits"
	"slices"
)

// The chapter's steps, word for word and without tables: what the package tells is held against them.

// lane is where the lane of column x and row y lies, numbers modulo 5.
func lane(x, y int) int {
	return x%5 + y%5*5
}

// columnsMixed is s after the first step of a round.
func columnsMixed(s [25]uint64) [25]uint64 {
	var columns [5]uint64
	for i, x := range s {
		columns[i%5] ^= x
	}
	for i := range s {
		s[i] ^= columns[(i+4)%5] ^ bits.RotateLeft64(columns[(i+1)%5], 1)
	}
	return s
}

// move is one lane's way in the second step of a round.
type move struct{ from, to, turn int }

func moves() []move {
	out := []move{{0, 0, 0}}
	x, y := 1, 0
	for t := 1; t <= 24; t++ {
		out = append(out, move{lane(x, y), lane(y, 2*x+3*y), t * (t + 1) / 2 % 64})
		x, y = y, (2*x+3*y)%5
	}
	return out
}

// moved is s after the second step of a round.
func moved(s [25]uint64) [25]uint64 {
	var out [25]uint64
	for _, m := range moves() {
		out[m.to] = bits.RotateLeft64(s[m.from], m.turn)
	}
	return out
}

// movedBack is what moved makes s of.
func movedBack(s [25]uint64) [25]uint64 {
	var out [25]uint64
	for _, m := range moves() {
		out[m.from] = bits.RotateLeft64(s[m.to], -m.turn)
	}
	return out
}

// rowsMixed is s after the third step of a round.
func rowsMixed(s [25]uint64) [25]uint64 {
	out := s
	for i := range out {
		x, y := i%5, i/5
		out[i] ^= s[lane(x+2, y)] &^ s[lane(x+1, y)]
	}
	return out
}

// constants are what the register tells for each round.
func constants() []uint64 {
	out := make([]uint64, 24)
	register := byte(1)
	for round := range out {
		for j := range 7 {
			out[round] |= uint64(register&1) << (1<<j - 1)
			highest := register >> 7
			register = register<<1 ^ highest*0x71
		}
	}
	return out
}

// permuted is what Permute of s should be.
func permuted(s [25]uint64) [25]uint64 {
	for _, c := range constants() {
		s = rowsMixed(moved(columnsMixed(s)))
		s[0] ^= c
	}
	return s
}

// times is s after a step that is made n times.
func times(n int, step func([25]uint64) [25]uint64, s [25]uint64) [25]uint64 {
	for range n {
		s = step(s)
	}
	return s
}

// unpermuted is the state whose Permute should be s. A step that is itself again after n times is undone by n - 1 of them: the first step after 192 times, the third after 4.
func unpermuted(s [25]uint64) [25]uint64 {
	for _, c := range slices.Backward(constants()) {
		s[0] ^= c
		s = times(191, columnsMixed, movedBack(times(3, rowsMixed, s)))
	}
	return s
}

// hashed is what Sum of b should be, by a permutation and the byte that stands behind b.
func hashed(b []byte, behind byte, permutation func([25]uint64) [25]uint64) [32]byte {
	b = append(slices.Clone(b), behind)
	for len(b)%136 != 0 {
		b = append(b, 0)
	}
	b[len(b)-1] ^= 0x80
	var s [25]uint64
	for block := range slices.Chunk(b, 136) {
		for i := range 17 {
			s[i] ^= binary.LittleEndian.Uint64(block[8*i:])
		}
		s = permutation(s)
	}
	var out [32]byte
	for i := range 4 {
		binary.LittleEndian.PutUint64(out[8*i:], s[i])
	}
	return out
}

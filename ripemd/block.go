package ripemd

import "math/bits"

// constants are what is added in the steps of each line, by their row.
var constants = [2][5]uint32{
	{0, 0x5a827999, 0x6ed9eba1, 0x8f1bbcdc, 0xa953fd4e},
	{0x50a28be6, 0x5c4dd124, 0x6d703ef3, 0x7a6d76e9, 0},
}

// mixes tells how numbers are mixed in the rows of each line.
var mixes = [2][5]int{
	{0, 1, 2, 3, 4},
	{4, 3, 2, 1, 0},
}

// turns are by how many bits is turned up in each row, by the place of the block's number.
var turns = [5][16]int{
	{11, 14, 15, 12, 5, 8, 7, 9, 11, 13, 14, 15, 6, 7, 9, 8},
	{12, 13, 11, 15, 6, 9, 9, 7, 12, 15, 11, 13, 7, 8, 7, 7},
	{13, 15, 14, 11, 7, 7, 6, 8, 13, 14, 13, 12, 5, 5, 6, 9},
	{14, 11, 12, 14, 8, 6, 5, 5, 15, 12, 15, 14, 9, 9, 8, 6},
	{15, 12, 13, 13, 9, 5, 8, 6, 14, 11, 12, 11, 8, 6, 5, 5},
}

// firsts are the places of the block's numbers in the first row of each line.
var firsts = [2][16]int{
	{0, 1, 2, 3, 4, 5, 6, 7, 8, 9, 10, 11, 12, 13, 14, 15},
	{5, 14, 7, 0, 9, 2, 11, 4, 13, 6, 15, 8, 1, 10, 3, 12},
}

// next is the place in a row by the place in the row ahead.
var next = [16]int{7, 4, 13, 1, 10, 6, 15, 3, 12, 0, 9, 5, 2, 14, 11, 8}

// Block is h with 64 bytes taken in.
func Block(h [5]uint32, b [64]byte) [5]uint32 {
	words := split(b)
	first, second := stepped(h, words, 0), stepped(h, words, 1)
	var out [5]uint32
	for i := range 5 {
		out[i] = h[(i+1)%5] + first[(i+2)%5] + second[(i+3)%5]
	}
	return out
}

// split is the numbers of a block, each of four bytes, the lowest first.
func split(b [64]byte) [16]uint32 {
	var out [16]uint32
	for i, x := range b {
		out[i/4] |= uint32(x) << (8 * (i % 4))
	}
	return out
}

// stepped is h behind the 80 steps of a line.
func stepped(h [5]uint32, words [16]uint32, line int) [5]uint32 {
	// Five variables, not an array: they stay in registers, which makes it four times as fast.
	a, b, c, d, e := h[0], h[1], h[2], h[3], h[4]
	places := firsts[line]
	for q := range 5 {
		way, constant := mixes[line][q], constants[line][q]
		for k, place := range places {
			t := a + mixed(way, b, c, d) + words[place] + constant
			t = bits.RotateLeft32(t, turns[q][place]) + e
			a, b, c, d, e = e, t, b, bits.RotateLeft32(c, 10), d
			places[k] = next[place]
		}
	}
	return [5]uint32{a, b, c, d, e}
}

// mixed is three numbers mixed in one of five ways.
func mixed(way int, b, c, d uint32) uint32 {
	switch way {
	case 0:
		return b ^ c ^ d
	case 1:
		return b&c | ^b&d
	case 2:
		return (b | ^c) ^ d
	case 3:
		return b&d | c&^d
	default:
		return b ^ (c | ^d)
	}
}

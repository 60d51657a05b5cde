package keccak

import "math/bits"

// state is 25 lanes, the one at column x and row y at x + 5y.
type state [25]uint64

// roundConstants are what the register of 8 bits tells for each round.
var roundConstants = [24]uint64{
	0x0000000000000001, 0x0000000000008082, 0x800000000000808a, 0x8000000080008000,
	0x000000000000808b, 0x0000000080000001, 0x8000000080008081, 0x8000000000008009,
	0x000000000000008a, 0x0000000000000088, 0x0000000080008009, 0x000000008000000a,
	0x000000008000808b, 0x800000000000008b, 0x8000000000008089, 0x8000000000008003,
	0x8000000000008002, 0x8000000000000080, 0x000000000000800a, 0x800000008000000a,
	0x8000000080008081, 0x8000000000008080, 0x0000000080000001, 0x8000000080008008,
}

// path is where the lane at (1, 0) comes to, then the lane that was there, and so on: from (x, y) to (y, 2x + 3y) each time.
var path = [24]int{10, 7, 11, 17, 18, 3, 5, 16, 8, 21, 24, 4, 15, 23, 19, 13, 12, 2, 20, 14, 22, 9, 6, 1}

// Permute is s after 24 rounds.
func Permute(s [25]uint64) [25]uint64 {
	lanes := state(s)
	lanes.permute()
	return lanes
}

// permute is Permute in place.
func (s *state) permute() {
	for round := range roundConstants {
		s.mixColumns()
		s.moveLanes()
		s.mixRows()
		s[0] ^= roundConstants[round]
	}
}

// mixColumns xors each lane with the columns to its left and to its right, the latter turned up by one bit.
func (s *state) mixColumns() {
	// Written out, as every hash of the chain spends its time in these steps.
	a := s[0] ^ s[5] ^ s[10] ^ s[15] ^ s[20]
	b := s[1] ^ s[6] ^ s[11] ^ s[16] ^ s[21]
	c := s[2] ^ s[7] ^ s[12] ^ s[17] ^ s[22]
	d := s[3] ^ s[8] ^ s[13] ^ s[18] ^ s[23]
	e := s[4] ^ s[9] ^ s[14] ^ s[19] ^ s[24]
	s.xorColumn(0, e^bits.RotateLeft64(b, 1))
	s.xorColumn(1, a^bits.RotateLeft64(c, 1))
	s.xorColumn(2, b^bits.RotateLeft64(d, 1))
	s.xorColumn(3, c^bits.RotateLeft64(e, 1))
	s.xorColumn(4, d^bits.RotateLeft64(a, 1))
}

// xorColumn xors all lanes of the column x.
func (s *state) xorColumn(x int, with uint64) {
	s[x] ^= with
	s[x+5] ^= with
	s[x+10] ^= with
	s[x+15] ^= with
	s[x+20] ^= with
}

// moveLanes turns each lane up, and moves it to its place; the one at (0, 0) stays as it is.
func (s *state) moveLanes() {
	lane, by := s[1], 0
	for t := range path {
		// The turns add up to t(t + 1)/2; whole turns by 64 bits change nothing.
		by += t + 1
		place := &s[path[t]]
		lane, *place = *place, bits.RotateLeft64(lane, by)
	}
}

// mixRows xors each lane with those bits of the lane two to its right that the one to its right has not.
func (s *state) mixRows() {
	for first := 0; first < len(s); first += 5 {
		lanes := s[first : first+5]
		var row [5]uint64
		copy(row[:], lanes)
		lanes[0] ^= row[2] &^ row[1]
		lanes[1] ^= row[3] &^ row[2]
		lanes[2] ^= row[4] &^ row[3]
		lanes[3] ^= row[0] &^ row[4]
		lanes[4] ^= row[1] &^ row[0]
	}
}

// xorByte xors x into the byte at a place, the lowest byte of a lane first.
func (s *state) xorByte(place int, x byte) {
	s[place/8] ^= uint64(x) << (place % 8 * 8)
}

// byteAt is the byte at a place.
func (s *state) byteAt(place int) byte {
	return byte(s[place/8] >> (place % 8 * 8))
}

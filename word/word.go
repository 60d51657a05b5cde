// Package word is layer 1: numbers of 256 bits: see DOC.md and doc/01-word.md.
package word

import (
	"cmp"
	"math/bits"

	"bailiwick/api"
)

// Add is the sum of a and b.
func Add(a, b api.Word) api.Word {
	sum, _ := addCarry(a, b)
	return sum
}

// addCarry tells the sum, and the bit that does not fit into it.
func addCarry(a, b api.Word) (api.Word, uint64) {
	var carry uint64
	for i := range a {
		a[i], carry = bits.Add64(a[i], b[i], carry)
	}
	return a, carry
}

// Sub is a less b.
func Sub(a, b api.Word) api.Word {
	var borrow uint64
	for i := range a {
		a[i], borrow = bits.Sub64(a[i], b[i], borrow)
	}
	return a
}

// Mul is the product of a and b.
func Mul(a, b api.Word) api.Word {
	return narrow(product(a, b))
}

// Exp is a to the power b.
func Exp(a, b api.Word) api.Word {
	power := Of(1)
	for i := Len(b) - 1; i >= 0; i-- {
		power = Mul(power, power)
		if hasBit(b, i) {
			power = Mul(power, a)
		}
	}
	return power
}

func hasBit(a api.Word, i int) bool {
	return a[i/64]>>(i%64)&1 == 1
}

// Cmp is -1, 0 or 1, as a is less than, is, is greater than b.
func Cmp(a, b api.Word) int {
	for i := len(a) - 1; i >= 0; i-- {
		if a[i] != b[i] {
			return cmp.Compare(a[i], b[i])
		}
	}
	return 0
}

// SCmp is Cmp of signed ones.
func SCmp(a, b api.Word) int {
	// With the highest bit turned about, the order of the signed ones is that of the plain ones.
	a[3] ^= 1 << 63
	b[3] ^= 1 << 63
	return Cmp(a, b)
}

// Len is how many bits a has.
func Len(a api.Word) int {
	for i := len(a) - 1; i >= 0; i-- {
		if a[i] != 0 {
			return 64*i + bits.Len64(a[i])
		}
	}
	return 0
}

// Of is the word n.
func Of(n uint64) api.Word {
	return api.Word{n}
}

// Small is a's number, and true, if it is below 2^64.
func Small(a api.Word) (uint64, bool) {
	if a != Of(a[0]) {
		return 0, false
	}
	return a[0], true
}

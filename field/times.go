package field

import (
	"math/bits"

	"bailiwick/api"
	"bailiwick/word"
)

// A division by m is slow, one by 2^256 is none: so a product is taken by 2^256 (Montgomery's way).
// A number times 2^256 is called scaled: of scaled ones times tells the scaled product.

// modulo is the field modulo m, which is odd.
func modulo(m api.Word) *Field {
	ones := word.Not(api.Word{})
	scaledOne := word.AddMod(ones, word.Of(1), m)
	return &Field{m: m, inverse: -partInverse(m[0]), square: word.MulMod(scaledOne, scaledOne, m)}
}

// partInverse is what times an odd part is 1 modulo 2^64.
func partInverse(part uint64) uint64 {
	// The square of an odd number is 1 modulo 8; each step makes twice as many bits right.
	inverse := part
	for range 5 {
		inverse *= 2 - part*inverse
	}
	return inverse
}

// scaled is a times 2^256 modulo m.
func (f *Field) scaled(a api.Word) api.Word {
	return f.times(a, f.square)
}

// times is a times b by 2^256 modulo m; a or b is below m, or else the sum ahead of the division is too great.
func (f *Field) times(a, b api.Word) api.Word {
	var sum [8]uint64
	for i, x := range a {
		sum[i+4] = addTimes((*api.Word)(sum[i:]), &b, x)
	}
	var beyond uint64
	for i := range a {
		// So many times m make the lowest part that is left 0.
		carry := addTimes((*api.Word)(sum[i:]), &f.m, sum[i]*f.inverse)
		sum[i+4], beyond = bits.Add64(sum[i+4], carry, beyond)
	}
	return f.lessOnce(api.Word(sum[4:]), beyond == 1)
}

// addTimes adds a times x to a sum, and tells what goes beyond it.
func addTimes(sum, a *api.Word, x uint64) uint64 {
	var carry uint64
	for i, y := range a {
		sum[i], carry = mulAdd(x, y, sum[i], carry)
	}
	return carry
}

// mulAdd tells the low and the high part of x times y and two more: these always fit in.
func mulAdd(x, y, more, carry uint64) (uint64, uint64) {
	high, low := bits.Mul64(x, y)
	low, over := bits.Add64(low, more, 0)
	high += over
	low, over = bits.Add64(low, carry, 0)
	return low, high + over
}

// Exp is a to the power e.
func (f *Field) Exp(a, e api.Word) api.Word {
	powers := f.powers(a)
	out := powers[0]
	for i := (word.Len(e)+3)/4 - 1; i >= 0; i-- {
		for range 4 {
			out = f.times(out, out)
		}
		digit := e[i/16] >> (i % 16 * 4) & 15
		out = f.times(out, powers[digit])
	}
	return f.times(out, word.Of(1))
}

// powers are a's first ones, scaled: one for each hexadecimal digit.
func (f *Field) powers(a api.Word) [16]api.Word {
	one, first := f.scaled(word.Of(1)), f.scaled(a)
	out := [16]api.Word{one}
	for i := range out[1:] {
		out[i+1] = f.times(out[i], first)
	}
	return out
}

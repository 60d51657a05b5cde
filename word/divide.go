package word

import (
	"math"
	"math/bits"

	"bailiwick/api"
)

// wide is a number of 512 bits: what a product of two words can be.
type wide [8]uint64

// widen is a as a wide number, with the parts of more above it.
func widen(a api.Word, more ...uint64) wide {
	var out wide
	copy(out[:], a[:])
	copy(out[len(a):], more)
	return out
}

// narrow is a modulo 2^256.
func narrow(a wide) api.Word {
	return api.Word(a[:4])
}

// Div is a by b without a fraction; 0, if b is 0.
func Div(a, b api.Word) api.Word {
	quotient, _ := divide(widen(a), b)
	return narrow(quotient)
}

// Mod is the rest of a by b; 0, if b is 0.
func Mod(a, b api.Word) api.Word {
	_, rest := divide(widen(a), b)
	return rest
}

// SDiv is Div of signed ones, toward 0.
func SDiv(a, b api.Word) api.Word {
	return signed(isNegative(a) != isNegative(b), Div(size(a), size(b)))
}

// SMod is Mod of signed ones, with a's sign.
func SMod(a, b api.Word) api.Word {
	return signed(isNegative(a), Mod(size(a), size(b)))
}

func isNegative(a api.Word) bool {
	return a[3]>>63 == 1
}

// size is a signed one without its sign; of the least one 2^255.
func size(a api.Word) api.Word {
	return signed(isNegative(a), a)
}

// signed is a, or 0 less a.
func signed(negative bool, a api.Word) api.Word {
	if negative {
		return Sub(api.Word{}, a)
	}
	return a
}

// AddMod is the whole sum of a and b modulo m; 0, if m is 0.
func AddMod(a, b, m api.Word) api.Word {
	sum, carry := addCarry(a, b)
	_, rest := divide(widen(sum, carry), m)
	return rest
}

// MulMod is the whole product of a and b modulo m; 0, if m is 0.
func MulMod(a, b, m api.Word) api.Word {
	_, rest := divide(product(a, b), m)
	return rest
}

// product is the whole product of a and b.
func product(a, b api.Word) wide {
	var out wide
	for i, x := range a {
		var carry uint64
		for j, y := range b {
			out[i+j], carry = mulAdd(x, y, out[i+j], carry)
		}
		out[i+len(b)] = carry
	}
	return out
}

// mulAdd tells the low and the high part of x times y and two more: these always fit in.
func mulAdd(x, y, more, carry uint64) (uint64, uint64) {
	high, low := bits.Mul64(x, y)
	low, c := bits.Add64(low, more, 0)
	high += c
	low, c = bits.Add64(low, carry, 0)
	return low, high + c
}

// divide tells quotient and rest of a by b; noughts, if b is 0.
func divide(a wide, b api.Word) (wide, api.Word) {
	n := parts(b[:])
	if n == 0 {
		return wide{}, api.Word{}
	}
	// A divisor that has its highest bit makes guesses of the quotient's parts good ones.
	by := bits.LeadingZeros64(b[n-1])
	divisor := Shl(Of(uint64(by)), b)
	rest := raise(a, by)
	var quotient wide
	for i := parts(a[:]) - n; i >= 0; i-- {
		quotient[i] = divideStep(rest[i:i+n+1], divisor[:n])
	}
	return quotient, Shr(Of(uint64(by)), api.Word(rest[:4]))
}

// parts is how many parts a has without the noughts behind its highest one.
func parts(a []uint64) int {
	n := len(a)
	for n > 0 && a[n-1] == 0 {
		n--
	}
	return n
}

// raise is a times 2 to the power by, which is below 64.
func raise(a wide, by int) [9]uint64 {
	var out [9]uint64
	for i, x := range a {
		out[i] |= x << by
		out[i+1] = x >> (64 - by)
	}
	return out
}

// divideStep tells the one part that is rest by b, and leaves in rest what remains.
// b has its highest bit; rest has a part more, and is less than 2^64 times b.
func divideStep(rest, b []uint64) uint64 {
	n := len(b)
	part := guess(rest[n], rest[n-1], b[n-1])
	// A guess is never too small, and too great by 2 at most.
	for debt := takeTimes(rest, b, part); debt != 0; part-- {
		debt -= giveBack(rest, b)
	}
	return part
}

// guess tells the part that the two highest parts of a rest by the highest one of a divisor are.
func guess(high, next, by uint64) uint64 {
	if high >= by {
		return math.MaxUint64
	}
	part, _ := bits.Div64(high, next, by)
	return part
}

// takeTimes takes b times part away from rest, and tells what is owed above it.
func takeTimes(rest, b []uint64, part uint64) uint64 {
	var carry, borrow uint64
	for i, x := range b {
		var times uint64
		times, carry = mulAdd(x, part, 0, carry)
		rest[i], borrow = bits.Sub64(rest[i], times, borrow)
	}
	rest[len(b)], borrow = bits.Sub64(rest[len(b)], carry, borrow)
	return borrow
}

// giveBack adds b to rest, and tells what goes beyond it.
func giveBack(rest, b []uint64) uint64 {
	var carry uint64
	for i, x := range b {
		rest[i], carry = bits.Add64(rest[i], x, carry)
	}
	rest[len(b)], carry = bits.Add64(rest[len(b)], 0, carry)
	return carry
}

package nat

import (
	"math/bits"

	"bailiwick/api"
)

// Add is the sum of a and b.
func Add(a, b api.Nat) (api.Nat, api.Errno) {
	if e := check(a, b); e != api.OK {
		return nil, e
	}
	a, b = trim(a), trim(b)
	out := make(api.Nat, max(len(a), len(b))+1)
	copy(out, a)
	addTo(out, b)
	return answer(out)
}

// Sub is a less b.
func Sub(a, b api.Nat) (api.Nat, api.Errno) {
	if e := check(a, b); e != api.OK {
		return nil, e
	}
	if Cmp(a, b) < 0 {
		return nil, api.ErrArg
	}
	out := Plain(a)
	takeFrom(out, trim(b))
	return answer(out)
}

// Mul is the product of a and b.
func Mul(a, b api.Nat) (api.Nat, api.Errno) {
	if e := check(a, b); e != api.OK {
		return nil, e
	}
	return answer(product(trim(a), trim(b)))
}

// product has as many parts as a and b together.
func product(a, b api.Nat) api.Nat {
	out := make(api.Nat, len(a)+len(b))
	for i, x := range a {
		out[i+len(b)] = addTimes(out[i:i+len(b)], b, x)
	}
	return out
}

// addTo adds b to a, which has as many parts or more, and tells what goes beyond a.
func addTo(a, b api.Nat) uint32 {
	var carry uint32
	for i, x := range b {
		a[i], carry = bits.Add32(a[i], x, carry)
	}
	for i := len(b); i < len(a) && carry != 0; i++ {
		a[i], carry = bits.Add32(a[i], 0, carry)
	}
	return carry
}

// takeFrom takes b away from a, which has as many parts or more, and tells what is owed above a.
func takeFrom(a, b api.Nat) uint32 {
	var borrow uint32
	for i, x := range b {
		a[i], borrow = bits.Sub32(a[i], x, borrow)
	}
	for i := len(b); i < len(a) && borrow != 0; i++ {
		a[i], borrow = bits.Sub32(a[i], 0, borrow)
	}
	return borrow
}

// addTimes adds b times by to a, which has as many parts as b, and tells what goes beyond a.
func addTimes(a, b api.Nat, by uint32) uint32 {
	a = a[:len(b)]
	var carry uint64
	for i, x := range b {
		// The greatest product, and two parts more, just fit into 64 bits.
		sum := uint64(x)*uint64(by) + uint64(a[i]) + carry
		a[i], carry = uint32(sum), sum>>32
	}
	return uint32(carry)
}

// takeTimes takes b times by away from a, which has as many parts as b, and tells what is owed above a.
func takeTimes(a, b api.Nat, by uint32) uint32 {
	a = a[:len(b)]
	var debt uint64
	for i, x := range b {
		// With all bits of a turned about, what is taken away is added.
		sum := uint64(x)*uint64(by) + uint64(^a[i]) + debt
		a[i], debt = ^uint32(sum), sum>>32
	}
	return uint32(debt)
}

package nat

import (
	"math"
	"math/bits"

	"bailiwick/api"
)

// DivMod is the quotient of a by b without a fraction, and the rest.
func DivMod(a, b api.Nat) (api.Nat, api.Nat, api.Errno) {
	if e := check(a, b); e != api.OK {
		return nil, nil, e
	}
	if Len(b) == 0 {
		return nil, nil, api.ErrArg
	}
	quotient, rest := divide(trim(a), trim(b))
	return Plain(quotient), Plain(rest), api.OK
}

// ModExp is a to the power of the exponent, modulo m.
func ModExp(a, exponent, m api.Nat) (api.Nat, api.Errno) {
	if e := check(a, exponent, m); e != api.OK {
		return nil, e
	}
	if Len(m) == 0 {
		return nil, api.ErrArg
	}
	m = trim(m)
	// What is right modulo a multiple of m is right modulo m, and that multiple is raised once for all steps.
	multiple := raise(m, headroom(m))[:len(m)]
	base := modulo(append(Plain(a), 0), multiple)
	power := api.Nat{1}
	for i := Len(exponent) - 1; i >= 0; i-- {
		power = timesModulo(power, power, multiple)
		if hasBit(exponent, i) {
			power = timesModulo(power, base, multiple)
		}
	}
	_, rest := divide(power, m)
	return answer(rest)
}

// GCD is the greatest common divisor of a and b.
func GCD(a, b api.Nat) (api.Nat, api.Errno) {
	if e := check(a, b); e != api.OK {
		return nil, e
	}
	a, b = trim(a), trim(b)
	for len(b) > 0 {
		_, rest := divide(a, b)
		a, b = b, trim(rest)
	}
	return answer(a)
}

func hasBit(a api.Nat, i int) bool {
	return a[i/32]>>(i%32)&1 == 1
}

// timesModulo is a times b modulo m, whose highest bit is set.
func timesModulo(a, b, m api.Nat) api.Nat {
	return modulo(append(product(a, b), 0), m)
}

// modulo is the rest of a by m, whose highest bit is set; a, whose highest part is 0, is used up.
func modulo(a, m api.Nat) api.Nat {
	for i := len(a) - len(m) - 1; i >= 0; i-- {
		divideStep(a[i:i+len(m)+1], m)
	}
	return trim(a)
}

// divide tells quotient and rest of a by b, whose highest part is not 0.
func divide(a, b api.Nat) (api.Nat, api.Nat) {
	by := headroom(b)
	rest, divisor := raise(a, by), raise(b, by)[:len(b)]
	quotient := make(api.Nat, max(0, len(rest)-len(b)))
	for i := len(quotient) - 1; i >= 0; i-- {
		quotient[i] = divideStep(rest[i:i+len(b)+1], divisor)
	}
	lower(rest, by)
	return quotient, rest
}

// headroom is how many bits above a's highest one its highest part has.
func headroom(a api.Nat) int {
	return bits.LeadingZeros32(a[len(a)-1])
}

// raise is a times 2 to the power by, which is below 32, with a part more than a has.
func raise(a api.Nat, by int) api.Nat {
	out := make(api.Nat, len(a)+1)
	for i, x := range a {
		out[i] |= x << by
		out[i+1] = x >> (32 - by)
	}
	return out
}

// lower takes raise back, in place.
func lower(a api.Nat, by int) {
	var above uint32
	for i := len(a) - 1; i >= 0; i-- {
		part := a[i]
		a[i] = part>>by | above
		above = part << (32 - by)
	}
}

// divideStep tells the one part that is rest by b, and leaves in rest what remains.
// b has its highest bit; rest has a part more, and is less than 2^32 times b.
func divideStep(rest, b api.Nat) uint32 {
	n := len(b)
	part := guess(rest, b)
	debt := takeTimes(rest[:n], b, part)
	short := debt > rest[n]
	rest[n] -= debt
	if short {
		rest[n] += addTo(rest[:n], b)
		part--
	}
	return part
}

// guess tells what part rest by b is from their highest parts: never too little, and too much by 1 at most.
func guess(rest, b api.Nat) uint32 {
	n := len(b)
	part, _ := bits.Div64(uint64(rest[n]), highest(rest[:n]), highest(b))
	return uint32(min(part, math.MaxUint32))
}

// highest is the two highest parts of a as one number; what a lacks is 0.
func highest(a api.Nat) uint64 {
	out := uint64(a[len(a)-1]) << 32
	if len(a) > 1 {
		out |= uint64(a[len(a)-2])
	}
	return out
}

package tower

import (
	"bailiwick/api"
	"bailiwick/nat"
	"bailiwick/word"
)

func (t tower) add12(a, b api.F12) api.F12 {
	for k, x := range b {
		a[k] = t.add2(a[k], x)
	}
	return a
}

func (t tower) mul12(a, b api.F12) api.F12 {
	aEven, aOdd := halves(a)
	bEven, bOdd := halves(b)
	even, odd := t.mulHalf(aEven, bEven), t.mulHalf(aOdd, bOdd)
	// The product of the sums is these two, and what belongs to w: so a third product does for two.
	all := t.mulHalf(t.addHalf(aEven, aOdd), t.addHalf(bEven, bOdd))
	return whole(t.addHalf(even, t.shifted(odd)), t.subHalf(all, t.addHalf(even, odd)))
}

// square12 is a times a, told by two products of halves.
func (t tower) square12(a api.F12) api.F12 {
	even, odd := halves(a)
	both := t.mulHalf(even, odd)
	all := t.mulHalf(t.addHalf(even, odd), t.addHalf(even, t.shifted(odd)))
	return whole(t.subHalf(all, t.addHalf(both, t.shifted(both))), t.addHalf(both, both))
}

func (t tower) inv12(a api.F12) (api.F12, bool) {
	// a times its conj12 has no odd half: so it is divided by among the halves.
	even, odd := halves(a)
	inverse, found := t.invHalf(t.subHalf(t.mulHalf(even, even), t.shifted(t.mulHalf(odd, odd))))
	return whole(t.mulHalf(even, inverse), t.subHalf(half{}, t.mulHalf(odd, inverse))), found
}

func (t tower) conj12(a api.F12) api.F12 {
	even, odd := halves(a)
	return whole(t.addHalf(half{}, even), t.subHalf(half{}, odd))
}

func (t tower) exp12(a api.F12, e api.Nat) api.F12 {
	powers := t.powers(a)
	out := powers[0]
	for i := (nat.Len(e)+3)/4 - 1; i >= 0; i-- {
		for range 4 {
			out = t.square12(out)
		}
		digit := e[i/8] >> (i % 8 * 4) & 15
		out = t.mul12(out, powers[digit])
	}
	return out
}

// powers are a's first ones: one for each hexadecimal digit.
func (t tower) powers(a api.F12) [16]api.F12 {
	out := [16]api.F12{One()}
	for i := range out[1:] {
		out[i+1] = t.mul12(out[i], a)
	}
	return out
}

func (t tower) power(a api.F12) api.F12 {
	// A sum to the power p is the sum of the powers, and of F2 the power is conj2: so only w's powers are left.
	var out api.F12
	turns := api.F2{word.Of(1)}
	for k, x := range a {
		out[k] = t.mul2(t.conj2(x), turns)
		turns = t.mul2(turns, turn())
	}
	return out
}

// turn is what w to the power p is of w: 9 and i to the power (p less 1) by 6.
func turn() api.F2 {
	return api.F2{
		{0xd60b35dadcc9e470, 0x5c521e08292f2176, 0xe8b99fdd76e68b60, 0x1284b71c2865a7df},
		{0xca5cf05f80f362ac, 0x747992778eeec7e5, 0xa6327cfe12150b8e, 0x246996f3b4fae7e6},
	}
}

package tower_test

import (
	"math/big"

	"bailiwick/api"
)

// What follows tells the chapter's words anew, with numbers of math/big, part by part.

// told2 is a number of F2: its parts of 1 and of i, of any size and sign.
type told2 [2]*big.Int

// told12 is a number of F12: its parts of 1, w, w^2, .. w^5.
type told12 [6]told2

func tell2(a api.F2) told2 {
	return told2{toBig(a[0]), toBig(a[1])}
}

func tell12(a api.F12) told12 {
	var out told12
	for k, x := range a {
		out[k] = tell2(x)
	}
	return out
}

// plain2 is a with its parts modulo p.
func plain2(a told2) api.F2 {
	p := prime()
	return api.F2{fromBig(new(big.Int).Mod(a[0], p)), fromBig(new(big.Int).Mod(a[1], p))}
}

func plain12(a told12) api.F12 {
	var out api.F12
	for k, x := range a {
		out[k] = plain2(x)
	}
	return out
}

// reduced is the number that is answered for a: a with its parts modulo p.
func reduced(a api.F12) api.F12 {
	return plain12(tell12(a))
}

func reduced2(a api.F2) api.F2 {
	return plain2(tell2(a))
}

func toldAdd2(a, b told2) told2 {
	return told2{new(big.Int).Add(a[0], b[0]), new(big.Int).Add(a[1], b[1])}
}

func toldSub2(a, b told2) told2 {
	return told2{new(big.Int).Sub(a[0], b[0]), new(big.Int).Sub(a[1], b[1])}
}

// toldMul2 is a's parts times b's, where i times i is -1.
func toldMul2(a, b told2) told2 {
	times := func(x, y *big.Int) *big.Int { return new(big.Int).Mul(x, y) }
	real := times(a[0], b[0])
	other := times(a[0], b[1])
	return told2{real.Sub(real, times(a[1], b[1])), other.Add(other, times(a[1], b[0]))}
}

// toldMul12 is a's parts times b's, where w^6 is 9 and i.
func toldMul12(a, b told12) told12 {
	out := tell12(api.F12{})
	for j, x := range a {
		for k, y := range b {
			product := toldMul2(x, y)
			if j+k >= 6 {
				product = toldMul2(product, told2{big.NewInt(9), big.NewInt(1)})
			}
			out[(j+k)%6] = toldAdd2(out[(j+k)%6], product)
		}
	}
	return tell12(plain12(out))
}

// toldExp12 is a to the power e, a bit at a time.
func toldExp12(a api.F12, e *big.Int) api.F12 {
	out := tell12(api.F12{{{1}}})
	for i := e.BitLen() - 1; i >= 0; i-- {
		out = toldMul12(out, out)
		if e.Bit(i) == 1 {
			out = toldMul12(out, tell12(a))
		}
	}
	return plain12(out)
}

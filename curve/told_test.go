package curve_test

import (
	"math/big"

	"bailiwick/api"
)

// What follows tells the chapter's words anew, with numbers of math/big and a division for each sum.

// modulo is x modulo p.
func modulo(x *big.Int) *big.Int {
	return x.Mod(x, prime())
}

// slope is that of the line through p and q, or of p's tangent; nil, if it goes straight up.
func slope(p, q api.Point) *big.Int {
	up := modulo(new(big.Int).Sub(toBig(q.Y), toBig(p.Y)))
	across := modulo(new(big.Int).Sub(toBig(q.X), toBig(p.X)))
	if up.Sign() == 0 && across.Sign() == 0 {
		up.Mul(toBig(p.X), toBig(p.X))
		up.Mul(up, big.NewInt(3))
		across.Lsh(toBig(p.Y), 1)
	}
	if modulo(across).Sign() == 0 {
		return nil
	}
	return modulo(up.Mul(up, across.ModInverse(across, prime())))
}

// toldSum is the sum of p and q, which are on the curve.
func toldSum(p, q api.Point) api.Point {
	if p.None {
		return q
	}
	if q.None {
		return p
	}
	rise := slope(p, q)
	if rise == nil {
		return none()
	}
	x := new(big.Int).Mul(rise, rise)
	x.Sub(x, toBig(p.X))
	modulo(x.Sub(x, toBig(q.X)))
	y := new(big.Int).Sub(toBig(p.X), x)
	y.Mul(y, rise)
	modulo(y.Sub(y, toBig(p.Y)))
	return api.Point{X: fromBig(x), Y: fromBig(y)}
}

// toldTimes is p added k times.
func toldTimes(k api.Word, p api.Point) api.Point {
	out := none()
	for i := 255; i >= 0; i-- {
		out = toldSum(out, out)
		if toBig(k).Bit(i) == 1 {
			out = toldSum(out, p)
		}
	}
	return out
}

// toldNeg is the point of p's X, and of prime less its Y.
func toldNeg(p api.Point) api.Point {
	if p.None {
		return none()
	}
	return api.Point{X: p.X, Y: fromBig(new(big.Int).Sub(prime(), toBig(p.Y)))}
}

// toldOn tells whether p is on the curve.
func toldOn(p api.Point) bool {
	if p.None {
		return true
	}
	x, y := toBig(p.X), toBig(p.Y)
	cube := new(big.Int).Mul(x, x)
	cube.Mul(cube, x)
	cube.Add(cube, big.NewInt(7))
	return x.Cmp(prime()) < 0 && y.Cmp(prime()) < 0 && modulo(y.Mul(y, y)).Cmp(modulo(cube)) == 0
}

// toldLift are the points of an X, the one with an even Y first, and whether there are any.
func toldLift(x api.Word) (even, odd api.Point, is bool) {
	cube := new(big.Int).Exp(toBig(x), big.NewInt(3), prime())
	modulo(cube.Add(cube, big.NewInt(7)))
	root := new(big.Int).ModSqrt(cube, prime())
	if root == nil || toBig(x).Cmp(prime()) >= 0 {
		return none(), none(), false
	}
	p := api.Point{X: x, Y: fromBig(root)}
	if root.Bit(0) == 1 {
		return toldNeg(p), p, true
	}
	return p, toldNeg(p), true
}

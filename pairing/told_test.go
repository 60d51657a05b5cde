package pairing_test

import (
	"math/big"

	"bailiwick/api"
	"bailiwick/tower"
	"bailiwick/word"
)

// What follows tells the chapter's words anew: a division for each sum, and all steps of the pairing one by one.
// Points of the first group are told as if they were of the twist, without an i: their sums hang on no b.

func wide(p api.Point) api.Twist {
	return api.Twist{X: api.F2{p.X}, Y: api.F2{p.Y}, None: p.None}
}

func narrow(q api.Twist) api.Point {
	return api.Point{X: q.X[0], Y: q.Y[0], None: q.None}
}

// lifted9 is 9 and i.
func lifted9() api.F2 {
	return api.F2{word.Of(9), word.Of(1)}
}

// toldRise is X X X, and 3 by (9 and i).
func toldRise(x api.F2) api.F2 {
	inverse, _ := tower.Inv2(lifted9())
	return tower.Add2(tower.Mul2(x, tower.Mul2(x, x)), tower.Mul2(api.F2{word.Of(3)}, inverse))
}

// toldOn tells whether p is on the curve.
func toldOn(p api.Point) bool {
	x, y := toBig(p.X), toBig(p.Y)
	rest := new(big.Int).Mul(y, y)
	rest.Sub(rest, new(big.Int).Exp(x, big.NewInt(3), nil))
	rest.Sub(rest, big.NewInt(3))
	return p.None || x.Cmp(prime()) < 0 && y.Cmp(prime()) < 0 && rest.Mod(rest, prime()).Sign() == 0
}

// toldOnTwist tells whether q is on the twist.
func toldOnTwist(q api.Twist) bool {
	if q.None {
		return true
	}
	for _, part := range []api.Word{q.X[0], q.X[1], q.Y[0], q.Y[1]} {
		if toBig(part).Cmp(prime()) >= 0 {
			return false
		}
	}
	return tower.Mul2(q.Y, q.Y) == toldRise(q.X) && toldTimes(order(), q).None
}

// toldSlope is that of the line through t and q, or of the tangent, if they are the same; false, if it goes straight up.
func toldSlope(t, q api.Twist) (api.F2, bool) {
	up, across := tower.Sub2(q.Y, t.Y), tower.Sub2(q.X, t.X)
	if up == (api.F2{}) && across == (api.F2{}) {
		up = tower.Mul2(api.F2{word.Of(3)}, tower.Mul2(t.X, t.X))
		across = tower.Add2(t.Y, t.Y)
	}
	inverse, found := tower.Inv2(across)
	return tower.Mul2(up, inverse), found
}

func toldSum(t, q api.Twist) api.Twist {
	if t.None {
		return q
	}
	if q.None {
		return t
	}
	slope, found := toldSlope(t, q)
	if !found {
		return noTwist()
	}
	x := tower.Sub2(tower.Sub2(tower.Mul2(slope, slope), t.X), q.X)
	return api.Twist{X: x, Y: tower.Sub2(tower.Mul2(slope, tower.Sub2(t.X, x)), t.Y)}
}

// toldTimes is q added k times.
func toldTimes(k *big.Int, q api.Twist) api.Twist {
	out := noTwist()
	for i := k.BitLen() - 1; i >= 0; i-- {
		out = toldSum(out, out)
		if k.Bit(i) == 1 {
			out = toldSum(out, q)
		}
	}
	return out
}

// toldLine is the line through t and q, at p.
func toldLine(t, q api.Twist, p api.Point) api.F12 {
	slope, found := toldSlope(t, q)
	if !found {
		return api.F12{0: {p.X}, 2: tower.Sub2(api.F2{}, t.X)}
	}
	return api.F12{
		0: tower.Sub2(api.F2{}, api.F2{p.Y}),
		1: tower.Mul2(slope, api.F2{p.X}),
		3: tower.Sub2(t.Y, tower.Mul2(slope, t.X)),
	}
}

// toldExp is a to the power e.
func toldExp(a api.F12, e *big.Int) api.F12 {
	out, err := tower.Exp12(a, toNat(e))
	if err != api.OK {
		panic(err)
	}
	return out
}

// toldMoved is Conj2 of X times g g, Conj2 of Y times g g g.
func toldMoved(q api.Twist) api.Twist {
	sixth := new(big.Int).Div(prime(), big.NewInt(6))
	g := toldExp(api.F12{lifted9()}, sixth)[0]
	square := tower.Mul2(g, g)
	return api.Twist{X: tower.Mul2(tower.Conj2(q.X), square), Y: tower.Mul2(tower.Conj2(q.Y), tower.Mul2(square, g))}
}

// steps is the number whose bits are the pairing's steps.
func steps() *big.Int {
	return decimal("29793968203157093288")
}

// toldPair is Pair of points that are on their curves.
func toldPair(p api.Point, q api.Twist) api.F12 {
	if p.None || q.None {
		return tower.One()
	}
	f, t := tower.One(), q
	through := func(other api.Twist) {
		f = tower.Mul12(f, toldLine(t, other, p))
		t = toldSum(t, other)
	}
	for i := steps().BitLen() - 2; i >= 0; i-- {
		f = tower.Mul12(f, f)
		through(t)
		if steps().Bit(i) == 1 {
			through(q)
		}
	}
	once := toldMoved(q)
	twice := toldMoved(once)
	through(once)
	through(turnedTwist(twice))
	e := new(big.Int).Exp(prime(), big.NewInt(12), nil)
	return toldExp(f, e.Div(e.Sub(e, big.NewInt(1)), order()))
}

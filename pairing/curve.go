package pairing

import (
	"bailiwick/api"
	"bailiwick/field"
	"bailiwick/tower"
	"bailiwick/word"
)

// curve is a group of a curve's points, told by numbers of a field: Y times Y is X times X times X and b.
type curve[N comparable] struct {
	add, sub, mul func(a, b N) N
	inv           func(a N) (N, bool)
	one, b        N
	wide          bool // the curve has points of other orders, too: they are not of the group
}

// point is a point of a curve, as those of package api are.
type point[N comparable] struct {
	X, Y N
	None bool
}

func first() curve[api.Word] {
	f := field.Base()
	return curve[api.Word]{add: f.Add, sub: f.Sub, mul: f.Mul, inv: f.Inv, one: word.Of(1), b: word.Of(3)}
}

func second() curve[api.F2] {
	// 3 by (9 and i)
	b := api.F2{
		{0x3267e6dc24a138e5, 0xb5b4c5e559dbefa3, 0x81be18991be06ac3, 0x2b149d40ceb8aaae},
		{0xe4a2bd0685c315d2, 0xa74fa084e52d1852, 0xcd2cafadeed8fdf4, 0x009713b03af0fed4},
	}
	return curve[api.F2]{add: tower.Add2, sub: tower.Sub2, mul: tower.Mul2, inv: tower.Inv2, one: api.F2{word.Of(1)}, b: b, wide: true}
}

// holds tells whether p is of the group.
func (c curve[N]) holds(p point[N]) bool {
	return p.None || c.fit(p.X, p.Y) && (!c.wide || c.times(Order(), p).none())
}

// fit tells whether there is a point of this X and this Y on the curve.
func (c curve[N]) fit(x, y N) bool {
	return c.below(x) && c.below(y) && c.mul(y, y) == c.add(c.mul(c.mul(x, x), x), c.b)
}

// below tells whether a is one of the field's numbers, and not only taken for one.
func (c curve[N]) below(a N) bool {
	var nought N
	return c.add(a, nought) == a
}

// sum is p and q added.
func (c curve[N]) sum(p, q point[N]) (point[N], api.Errno) {
	if !c.holds(p) || !c.holds(q) {
		return point[N]{None: true}, api.ErrCurve
	}
	sum, _ := c.plus(c.place(p), q)
	return c.point(sum), api.OK
}

// product is p added k times.
func (c curve[N]) product(k api.Word, p point[N]) (point[N], api.Errno) {
	if !c.holds(p) {
		return point[N]{None: true}, api.ErrCurve
	}
	return c.point(c.times(k, p)), api.OK
}

// times is where p added k times lies; p may be any point of the curve.
func (c curve[N]) times(k api.Word, p point[N]) place[N] {
	var sum place[N]
	for i := word.Len(k) - 1; i >= 0; i-- {
		sum, _ = c.twice(sum)
		if k[i/64]>>(i%64)&1 == 1 {
			sum, _ = c.plus(sum, p)
		}
	}
	return sum
}

package curve

import (
	"bailiwick/api"
	"bailiwick/word"
)

// place is a point told without a division: its X is x by z times z, its Y is y by z times z times z; of None z is 0.
type place struct {
	x, y, z api.Word
}

// twice is p and itself.
func (g group) twice(p place) place {
	if p.z == (api.Word{}) {
		return p // None is so ahead of a number's highest digit: it costs nothing
	}
	rise := g.Add(p.y, p.y)
	half := g.Mul(p.y, rise)
	square := g.Add(half, half)
	middle := g.Mul(p.x, square)
	xx := g.Mul(p.x, p.x)
	slope := g.Add(g.Add(xx, xx), xx)
	x := g.Sub(g.Mul(slope, slope), g.Add(middle, middle))
	y := g.Sub(g.Mul(slope, g.Sub(middle, x)), g.Mul(half, square))
	return place{x, y, g.Mul(rise, p.z)}
}

// plus is p and q.
func (g group) plus(p place, q api.Point) place {
	if q.None {
		return p
	}
	if p.z == (api.Word{}) {
		return place{q.X, q.Y, word.Of(1)}
	}
	zz := g.Mul(p.z, p.z)
	across := g.Sub(g.Mul(q.X, zz), p.x)
	up := g.Sub(g.Mul(q.Y, g.Mul(zz, p.z)), p.y)
	if across == (api.Word{}) && up == (api.Word{}) {
		return g.twice(p) // they are the same point: the line is its tangent
	}
	// If only the Y are not the same, then z becomes 0 by itself.
	square := g.Mul(across, across)
	cube := g.Mul(square, across)
	middle := g.Mul(p.x, square)
	x := g.Sub(g.Sub(g.Mul(up, up), cube), g.Add(middle, middle))
	y := g.Sub(g.Mul(up, g.Sub(middle, x)), g.Mul(p.y, cube))
	return place{x, y, g.Mul(p.z, across)}
}

// point is the point that p tells.
func (g group) point(p place) api.Point {
	inverse, found := g.Inv(p.z)
	if !found {
		return none()
	}
	square := g.Mul(inverse, inverse)
	return api.Point{X: g.Mul(p.x, square), Y: g.Mul(p.y, g.Mul(square, inverse))}
}

package curve

import (
	"bailiwick/api"
	"bailiwick/field"
	"bailiwick/word"
)

// group is the curve's points, told by numbers of a field: Y times Y is X times X times X and 7.
type group struct {
	*field.Field
}

// times is a point, and how many times it is taken.
type times struct {
	k api.Word
	p api.Point
}

func points() group {
	return group{field.Curve()}
}

func none() api.Point {
	return api.Point{None: true}
}

// hold tells whether all points are on the curve.
func (g group) hold(points ...api.Point) bool {
	for _, p := range points {
		if !p.None && !g.fit(p.X, p.Y) {
			return false
		}
	}
	return true
}

// fit tells whether there is a point of this X and this Y.
func (g group) fit(x, y api.Word) bool {
	return g.below(x) && g.below(y) && g.Mul(y, y) == g.squareOfY(x)
}

// below tells whether a is one of the field's numbers, and not only taken for one.
func (g group) below(a api.Word) bool {
	return g.Of(a) == a
}

// squareOfY is what Y times Y is, where X is x.
func (g group) squareOfY(x api.Word) api.Word {
	return g.Add(g.Mul(g.Mul(x, x), x), word.Of(7))
}

// turned is p with the other Y.
func (g group) turned(p api.Point) api.Point {
	if p.None {
		return none()
	}
	return api.Point{X: p.X, Y: g.Neg(p.Y)}
}

// sum is all points added.
func (g group) sum(points ...api.Point) (api.Point, api.Errno) {
	if !g.hold(points...) {
		return none(), api.ErrCurve
	}
	var sum place
	for _, p := range points {
		sum = g.plus(sum, p)
	}
	return g.point(sum), api.OK
}

// sumOfTimes is all points added, each so many times.
func (g group) sumOfTimes(all ...times) (api.Point, api.Errno) {
	var paths []path
	for _, t := range all {
		if !g.hold(t.p) {
			return none(), api.ErrCurve
		}
		paths = append(paths, g.pathTo(t))
	}
	var sum place
	for i := highest; i >= 0; i-- {
		// Most of the work is to double: so it is done once for all points.
		sum = g.twice(sum)
		for _, way := range paths {
			sum = g.plus(sum, way.points[way.digits[i]])
		}
	}
	return g.point(sum), api.OK
}

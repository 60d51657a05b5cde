package pairing

import (
	"bailiwick/api"
	"bailiwick/tower"
)

// steps are the bits of 29793968203157093288 behind its highest one, which is that of 2^64.
const steps uint64 = 29793968203157093288 - 1<<64

// waiting is a pair that waits for its lines to be told: the next one starts at a place, which is so many times q.
type waiting struct {
	p  api.Point
	q  point[api.F2]
	at place[api.F2]
}

// walked is what f comes to, for all pairs at once, ahead of the power at its end.
// No line goes straight up: each sum on the way is so many times q, which r does not divide, so none is None.
func walked(all []waiting) api.F12 {
	f := tower.One()
	each := func(line func(*waiting) api.F12) {
		for i := range all {
			f = tower.Mul12(f, line(&all[i]))
		}
	}
	for i := 63; i >= 0; i-- {
		f = tower.Mul12(f, f)
		each((*waiting).tangent)
		if steps>>i&1 == 1 {
			each((*waiting).chord)
		}
	}
	each((*waiting).end)
	return f
}

// tangent is the line at the place.
func (w *waiting) tangent() api.F12 {
	return w.line(second().twice(w.at))
}

// chord is the line through the place and q.
func (w *waiting) chord() api.F12 {
	return w.line(second().plus(w.at, w.q))
}

// end is the product of the last two lines: through q moved once, and through q moved twice and turned about.
func (w *waiting) end() api.F12 {
	w.q = moved(w.q)
	once := w.chord()
	w.q = moved(w.q)
	w.q.Y = tower.Sub2(api.F2{}, w.q.Y)
	return tower.Mul12(once, w.chord())
}

// moved is q with its parts to the power p: its X belongs to w^2, its Y to w^3.
func moved(q point[api.F2]) point[api.F2] {
	power := tower.Power(api.F12{2: q.X, 3: q.Y})
	return point[api.F2]{X: power[2], Y: power[3]}
}

// line is the one that led to a place, which is where the next one starts; its third point is the place turned about.
// It is told times 0 less z z z, so that nothing is divided by: of any number of F2 the power at f's end makes 1.
func (w *waiting) line(to place[api.F2], slope api.F2) api.F12 {
	w.at = to
	square := tower.Mul2(to.z, to.z)
	across := tower.Mul2(api.F2{w.p.X}, tower.Mul2(slope, square))
	return api.F12{
		0: tower.Mul2(api.F2{w.p.Y}, tower.Mul2(to.z, square)),
		1: tower.Sub2(api.F2{}, across),
		3: tower.Add2(to.y, tower.Mul2(slope, to.x)),
	}
}

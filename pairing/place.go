package pairing

// place is a point told without a division: its X is x by z z, its Y is y by z z z; of None z is 0.
type place[N comparable] struct {
	x, y, z N
}

func (p place[N]) none() bool {
	var nought N
	return p.z == nought
}

// place tells p so.
func (c curve[N]) place(p point[N]) place[N] {
	if p.None {
		return place[N]{}
	}
	return place[N]{p.X, p.Y, c.one}
}

// point is the point that p tells.
func (c curve[N]) point(p place[N]) point[N] {
	inverse, found := c.inv(p.z)
	if !found {
		return point[N]{None: true}
	}
	square := c.mul(inverse, inverse)
	return point[N]{X: c.mul(p.x, square), Y: c.mul(p.y, c.mul(square, inverse))}
}

// twice is p and itself. Beside it stands the slope of the tangent, times the z of what is told.
func (c curve[N]) twice(p place[N]) (place[N], N) {
	double := c.add(p.y, p.y)
	middle := c.mul(p.x, c.mul(double, double))
	square := c.mul(p.x, p.x)
	slope := c.add(square, c.add(square, square))
	x := c.sub(c.mul(slope, slope), c.add(middle, middle))
	fourth := c.mul(double, c.mul(p.y, c.mul(double, double)))
	y := c.sub(c.mul(slope, c.sub(middle, x)), fourth)
	return place[N]{x, y, c.mul(double, p.z)}, slope
}

// plus is p and q. Beside it stands the slope of the line through them, times the z of what is told.
func (c curve[N]) plus(p place[N], q point[N]) (place[N], N) {
	var nought N
	if q.None {
		return p, nought
	}
	if p.none() {
		return c.place(q), nought
	}
	square := c.mul(p.z, p.z)
	across := c.sub(c.mul(q.X, square), p.x)
	slope := c.sub(c.mul(q.Y, c.mul(square, p.z)), p.y)
	if across == nought && slope == nought {
		return c.twice(p)
	}
	// Of p and p turned about across is 0, and z by it: this is None.
	middle := c.mul(p.x, c.mul(across, across))
	third := c.mul(across, c.mul(across, across))
	x := c.sub(c.mul(slope, slope), c.add(third, c.add(middle, middle)))
	y := c.sub(c.mul(slope, c.sub(middle, x)), c.mul(p.y, third))
	return place[N]{x, y, c.mul(p.z, across)}, slope
}

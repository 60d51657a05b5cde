package pairing_test

import (
	"math/big"
	"math/rand/v2"
	"testing"

	"bailiwick/api"
	"bailiwick/pairing"
	"bailiwick/word"
)

// group is one of both groups: its calls, and samples of it.
type group[P comparable] struct {
	on        func(P) bool
	add       func(p, q P) (P, api.Errno)
	mul       func(k api.Word, p P) (P, api.Errno)
	sum       func(p, q P) P
	times     func(k *big.Int, p P) P
	turned    func(P) P
	base      P
	nones     []P
	points    func(d *rand.Rand, count int) []P
	strangers []P
}

func firstGroup() group[api.Point] {
	base, _ := pairing.Base()
	return group[api.Point]{
		on: pairing.On, add: pairing.Add, mul: pairing.Mul,
		sum:    func(p, q api.Point) api.Point { return narrow(toldSum(wide(p), wide(q))) },
		times:  func(k *big.Int, p api.Point) api.Point { return narrow(toldTimes(k, wide(p))) },
		turned: turned, base: base, nones: nones(), points: points, strangers: strangers(draw(1)),
	}
}

func secondGroup() group[api.Twist] {
	_, base := pairing.Base()
	return group[api.Twist]{
		on: pairing.OnTwist, add: pairing.AddTwist, mul: pairing.MulTwist,
		sum: toldSum, times: toldTimes, turned: turnedTwist,
		base: base, nones: noTwists(), points: twists, strangers: strangeTwists(draw(2)),
	}
}

// none is None as it is answered.
func (g group[P]) none() P {
	return g.nones[0]
}

// added is what add answers for points on the curve, and taken what mul does.
func (g group[P]) added(t *testing.T, p, q P) P {
	t.Helper()
	out, e := g.add(p, q)
	same(t, "the error of a sum", e, api.OK, p, q)
	return out
}

func (g group[P]) taken(t *testing.T, k api.Word, p P) P {
	t.Helper()
	out, e := g.mul(k, p)
	same(t, "the error of a product", e, api.OK, k, p)
	return out
}

func TestP11_1Add(t *testing.T) {
	testAdd(t, firstGroup(), 12)
}

func TestP11_1AddTwist(t *testing.T) {
	testAdd(t, secondGroup(), 3)
}

func testAdd[P comparable](t *testing.T, g group[P], count int) {
	all := g.points(draw(3), count)
	for _, p := range all[1:] {
		all = append(all, g.turned(p))
	}
	for _, p := range all {
		for _, q := range all {
			same(t, "a sum", g.added(t, p, q), g.sum(p, q), p, q)
		}
		same(t, "the sum of a point and it turned about", g.added(t, p, g.turned(p)), g.none(), p)
	}
	for _, none := range g.nones {
		for _, p := range all[:4] {
			same(t, "the sum of a point and None", g.added(t, p, none), p, p, none)
			same(t, "the sum of None and a point", g.added(t, none, p), p, none, p)
		}
		for _, other := range g.nones {
			same(t, "the sum of None and None", g.added(t, none, other), g.none(), none, other)
		}
	}
}

// All sums of few times a point, in either direction: each is a point that is known.
func TestP11_1AddTable(t *testing.T) {
	testTable(t, firstGroup(), 9)
}

func TestP11_1AddTwistTable(t *testing.T) {
	testTable(t, secondGroup(), 3)
}

func testTable[P comparable](t *testing.T, g group[P], most int) {
	p := g.points(draw(4), 1)[2]
	times := make([]P, 4*most+1)
	times[2*most] = g.none()
	for i := range 2 * most {
		times[2*most+i+1] = g.sum(times[2*most+i], p)
		times[2*most-i-1] = g.turned(times[2*most+i+1])
	}
	for i := -most; i <= most; i++ {
		for j := -most; j <= most; j++ {
			same(t, "a sum", g.added(t, times[2*most+i], times[2*most+j]), times[2*most+i+j], p, i, j)
		}
	}
	for k := range 2 * most {
		same(t, "a product", g.taken(t, word.Of(uint64(k)), p), times[2*most+k], k, p)
	}
}

// The line through two points of one Y goes through the third one.
func TestP11_1AddLevel(t *testing.T) {
	g, l := firstGroup(), level()
	for i, p := range l {
		q, third := l[(i+1)%3], l[(i+2)%3]
		same(t, "On", pairing.On(p), true, p)
		same(t, "a sum", g.added(t, p, q), turned(third), p, q)
		same(t, "a sum and the third point", g.added(t, g.added(t, q, p), third), none(), p, q)
	}
}

func TestP11_1Mul(t *testing.T) {
	testMul(t, firstGroup(), 20)
}

func TestP11_1MulTwist(t *testing.T) {
	testMul(t, secondGroup(), 2)
}

func testMul[P comparable](t *testing.T, g group[P], count int) {
	d := draw(5)
	all := g.points(d, 3)
	for _, k := range numbers(d, count) {
		p := pick(d, all[1:])
		same(t, "a product", g.taken(t, k, p), g.times(toBig(k), p), k, p)
		same(t, "so many times None", g.taken(t, k, pick(d, g.nones)), g.none(), k)
	}
	for _, none := range g.nones {
		same(t, "twice None", g.taken(t, word.Of(2), none), g.none(), none)
	}
	for _, p := range all {
		same(t, "no times p", g.taken(t, api.Word{}, p), g.none(), p)
		same(t, "one time p", g.taken(t, word.Of(1), p), p, p)
	}
}

func TestP11_1Refused(t *testing.T) {
	testRefused(t, firstGroup())
}

func TestP11_1RefusedTwist(t *testing.T) {
	testRefused(t, secondGroup())
}

// A refusal is None and ErrCurve, whichever point it is for, and however many times that is taken.
func testRefused[P comparable](t *testing.T, g group[P]) {
	d := draw(6)
	good := append(g.points(d, 2), g.nones...)
	refused := func(what string, got P, e api.Errno, of ...any) {
		t.Helper()
		same(t, what, got, g.none(), of...)
		same(t, "the error of "+what, e, api.ErrCurve, of...)
	}
	for i, p := range g.strangers {
		same(t, "whether it is on the curve", g.on(p), false, p)
		q := good[i%len(good)]
		got, e := g.add(p, q)
		refused("a sum", got, e, p, q)
		got, e = g.add(q, p)
		refused("a sum", got, e, q, p)
		got, e = g.add(p, p)
		refused("a sum", got, e, p, p)
		for _, k := range []api.Word{{}, word.Of(1), fromBig(order()), drawn(d)} {
			got, e = g.mul(k, p)
			refused("a product", got, e, k, p)
		}
	}
}

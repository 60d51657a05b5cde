package pairing_test

import (
	"math/big"
	"testing"

	"bailiwick/api"
	"bailiwick/pairing"
	"bailiwick/tower"
)

// pair is what Pair answers for points on their curves.
func pair(t *testing.T, p api.Point, q api.Twist) api.F12 {
	t.Helper()
	out, e := pairing.Pair(p, q)
	same(t, "Pair's error", e, api.OK, p, q)
	return out
}

func TestP11_2Pair(t *testing.T) {
	d := draw(21)
	l, m := points(d, 2)[1:], twists(d, 2)[1:]
	for i, p := range l {
		q := m[i%len(m)]
		same(t, "Pair", pair(t, p, q), toldPair(p, q), p, q)
		same(t, "Pair of a point turned about", pair(t, turned(p), q), toldPair(turned(p), q), p, q)
		same(t, "Pair of a twist's point turned about", pair(t, p, turnedTwist(q)), toldPair(p, turnedTwist(q)), p, q)
	}
}

// Points of one Y have not one Pair.
func TestP11_2PairLevel(t *testing.T) {
	q := twists(draw(22), 1)[2]
	for _, p := range level() {
		same(t, "Pair", pair(t, p, q), toldPair(p, q), p, q)
	}
}

func TestP11_2PairOfNone(t *testing.T) {
	d := draw(23)
	l, m := points(d, 1), twists(d, 1)
	for _, none := range nones() {
		for _, q := range append(noTwists(), m...) {
			same(t, "Pair of None", pair(t, none, q), tower.One(), none, q)
		}
	}
	for _, none := range noTwists() {
		for _, p := range l {
			same(t, "Pair of None", pair(t, p, none), tower.One(), p, none)
		}
	}
}

// A refusal is 0 and ErrCurve, whichever is refused, and whether or not the other one is None.
func TestP11_2Refused(t *testing.T) {
	d := draw(24)
	refused := func(p api.Point, q api.Twist) {
		t.Helper()
		got, e := pairing.Pair(p, q)
		same(t, "Pair", got, api.F12{}, p, q)
		same(t, "Pair's error", e, api.ErrCurve, p, q)
	}
	l, m := append(points(d, 1), nones()...), append(twists(d, 1), noTwists()...)
	strange := strangeTwists(d)
	for i, p := range strangers(d) {
		refused(p, m[i%len(m)])
		refused(p, strange[i%len(strange)])
	}
	for i, q := range strange {
		refused(l[i%len(l)], q)
	}
}

// No line of the pairing goes straight up, as no sum on the way is None: each is so many times q, not a number of times r.
// q moved is p times q: so often are the last two added.
func TestP11_2NeverStraightUp(t *testing.T) {
	r := order()
	at := big.NewInt(1)
	through := func(other *big.Int) {
		at.Mod(at.Add(at, other), r)
		same(t, "whether it is None", at.Sign(), 1, other)
	}
	for i := steps().BitLen() - 2; i >= 0; i-- {
		through(new(big.Int).Set(at))
		if steps().Bit(i) == 1 {
			through(big.NewInt(1))
		}
	}
	p := new(big.Int).Mod(prime(), r)
	through(p)
	square := new(big.Int).Mul(p, p)
	through(square.Mod(square.Neg(square), r))
	_, q := pairing.Base()
	once := toldMoved(q)
	same(t, "q moved once", once, toldTimes(p, q))
	same(t, "q moved twice, turned about", turnedTwist(toldMoved(once)), toldTimes(square, q))
}

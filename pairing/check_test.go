package pairing_test

import (
	"math/big"
	"math/rand/v2"
	"slices"
	"testing"

	"bailiwick/api"
	"bailiwick/pairing"
	"bailiwick/tower"
	"bailiwick/word"
)

// closed are so many pairs, whose product is 1: so many times the bases, the last one of them as it must be.
func closed(d *rand.Rand, count int) ([]api.Point, []api.Twist) {
	p, q := pairing.Base()
	var l []api.Point
	var m []api.Twist
	sum := new(big.Int)
	for range count - 1 {
		j, k := drawn(d), word.Of(d.Uint64N(1000))
		l = append(l, narrow(toldTimes(toBig(j), wide(p))))
		m = append(m, toldTimes(toBig(k), q))
		sum.Add(sum, new(big.Int).Mul(toBig(j), toBig(k)))
	}
	if count > 0 {
		l = append(l, narrow(toldTimes(sum.Mod(sum.Neg(sum), order()), wide(p))))
		m = append(m, q)
	}
	return l, m
}

func checked(t *testing.T, l []api.Point, m []api.Twist, want bool) {
	t.Helper()
	is, e := pairing.Check(l, m)
	same(t, "Check's error", e, api.OK, l, m)
	same(t, "Check", is, want, l, m)
}

func TestP11_3Check(t *testing.T) {
	d := draw(31)
	for _, count := range []int{0, 1, 2, 3, 5, 16} {
		l, m := closed(d, count)
		checked(t, l, m, true)
		if count < 2 {
			continue
		}
		for k := range l {
			if k%5 == 0 {
				other := slices.Clone(l)
				other[k] = turned(l[k])
				checked(t, other, m, false)
			}
		}
		slices.Reverse(l)
		slices.Reverse(m)
		checked(t, l, m, true)
		slices.Reverse(m)
		checked(t, l, m, false)
	}
}

func TestP11_3CheckOfOne(t *testing.T) {
	d := draw(32)
	for i, p := range points(d, 2)[1:] {
		q := twists(d, 1)[1+i%2]
		checked(t, []api.Point{p}, []api.Twist{q}, false)
		checked(t, []api.Point{p, turned(p)}, []api.Twist{q, q}, true)
		checked(t, []api.Point{p, p}, []api.Twist{q, turnedTwist(q)}, true)
		checked(t, []api.Point{p, p}, []api.Twist{q, q}, false)
		checked(t, []api.Point{p, turned(p)}, []api.Twist{q, turnedTwist(q)}, false)
	}
}

// Check tells of any points what Pair tells of each.
func TestP11_3CheckAsPair(t *testing.T) {
	d := draw(33)
	for _, count := range []int{2, 3} {
		l, m := closed(d, count)
		f := tower.One()
		for i, p := range l {
			f = tower.Mul12(f, pair(t, p, m[i]))
		}
		same(t, "the product", f, tower.One(), l, m)
		l[0], l[1] = l[1], l[0]
		f = tower.One()
		for i, p := range l {
			f = tower.Mul12(f, pair(t, p, m[i]))
		}
		same(t, "whether the product is 1", f == tower.One(), false, l, m)
		checked(t, l, m, false)
	}
}

// A pair with None in it changes nothing, wherever it stands.
func TestP11_3CheckOfNone(t *testing.T) {
	d := draw(34)
	p, q := pairing.Base()
	for i, none := range nones() {
		twist := noTwists()[i]
		checked(t, []api.Point{none}, []api.Twist{q}, true)
		checked(t, []api.Point{p}, []api.Twist{twist}, true)
		checked(t, []api.Point{none, p}, []api.Twist{twist, q}, false)
		l, m := closed(d, 2)
		at := i % 3
		checked(t, slices.Insert(slices.Clone(l), at, none), slices.Insert(slices.Clone(m), at, q), true)
		checked(t, slices.Insert(slices.Clone(l), at, p), slices.Insert(slices.Clone(m), at, twist), true)
	}
	checked(t, slices.Repeat(nones(), 4), slices.Repeat(noTwists(), 4), true)
	checked(t, nil, []api.Twist{}, true)
}

func refusedCheck(t *testing.T, l []api.Point, m []api.Twist, want api.Errno) {
	t.Helper()
	is, e := pairing.Check(l, m)
	same(t, "Check", is, false, l, m)
	same(t, "Check's error", e, want, l, m)
}

func TestP11_3Refused(t *testing.T) {
	d := draw(35)
	strange, strangeTwist := pick(d, strangers(d)), pick(d, strangeTwists(d))
	l, m := closed(d, 17)
	refusedCheck(t, l, m, api.ErrLong)
	refusedCheck(t, slices.Repeat(nones(), 5), slices.Repeat(noTwists(), 5), api.ErrLong)
	refusedCheck(t, slices.Repeat(nones(), 5000), slices.Repeat(noTwists(), 5000), api.ErrLong)
	for _, count := range [][2]int{{0, 1}, {1, 0}, {1, 2}, {2, 1}, {16, 17}, {17, 16}, {17, 0}, {0, 17}, {16, 15}} {
		refusedCheck(t, l[:count[0]], m[:count[1]], api.ErrArg)
	}
	for _, at := range []int{0, 1, 2} {
		l, m := closed(d, 3)
		other, otherTwists := slices.Clone(l), slices.Clone(m)
		other[at], otherTwists[at] = strange, strangeTwist
		refusedCheck(t, other, m, api.ErrCurve)
		refusedCheck(t, l, otherTwists, api.ErrCurve)
		refusedCheck(t, other, otherTwists, api.ErrCurve)
		refusedCheck(t, other, m[:2], api.ErrArg)
		refusedCheck(t, l[:2], otherTwists, api.ErrArg)
		l[at], m[at] = none(), noTwist()
		refusedCheck(t, l, otherTwists, api.ErrCurve)
		refusedCheck(t, other, m, api.ErrCurve)
	}
	l[3], m[4] = strange, strangeTwist
	refusedCheck(t, l, m, api.ErrLong)
	refusedCheck(t, l[:16], m[:16], api.ErrCurve)
}

// What is handed in stays as it is, its spare room included.
func TestP11_3ChangesNothing(t *testing.T) {
	l, m := closed(draw(36), 5)
	wasL, wasM := slices.Clone(l), slices.Clone(m)
	for range 2 {
		checked(t, l[:3], m[:3], false)
		checked(t, l, m, true)
	}
	if !slices.Equal(l, wasL) || !slices.Equal(m, wasM) {
		t.Fatalf("the points were changed: %v, %v, were %v, %v", l, m, wasL, wasM)
	}
}

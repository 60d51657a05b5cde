package pairing_test

import (
	"math/big"
	"testing"

	"bailiwick/api"
	"bailiwick/pairing"
	"bailiwick/tower"
	"bailiwick/word"
)

func TestP11_1Order(t *testing.T) {
	for range 2 {
		same(t, "Order", pairing.Order(), fromBig(order()))
	}
}

func TestP11_1Base(t *testing.T) {
	part := func(digits string) api.Word { return fromBig(decimal(digits)) }
	want := api.Twist{
		X: api.F2{
			part("10857046999023057135944570762232829481370756359578518086990519993285655852781"),
			part("11559732032986387107991004021392285783925812861821192530917403151452391805634"),
		},
		Y: api.F2{
			part("8495653923123431417604973247489272438418190587263600148770280649306958101930"),
			part("4082367875863433681332203403145435568316851327593401208105741076214120093531"),
		},
	}
	for range 2 {
		p, q := pairing.Base()
		same(t, "Base", p, api.Point{X: word.Of(1), Y: word.Of(2)})
		same(t, "the twist's Base", q, want)
		p.X[1], q.X[1][2] = 7, 7
	}
}

func TestP11_1On(t *testing.T) {
	for _, p := range append(nones(), points(draw(11), 100)...) {
		same(t, "On", pairing.On(p), true, p)
		same(t, "On of it turned about", pairing.On(turned(p)), true, p)
		same(t, "On as told", toldOn(p), true, p)
	}
	for _, p := range strangers(draw(12)) {
		same(t, "On", pairing.On(p), false, p)
		same(t, "On as told", toldOn(p), false, p)
	}
}

// On asks just for the curve's 3: not for another number, and not for another slope.
func TestP11_1OnOtherCurves(t *testing.T) {
	d := draw(13)
	for x := range uint64(40) {
		for y := range uint64(40) {
			p := api.Point{X: word.Of(x), Y: word.Of(y)}
			same(t, "On", pairing.On(p), toldOn(p), p)
		}
	}
	for range 200 {
		p := api.Point{X: below(d), Y: below(d)}
		same(t, "On", pairing.On(p), false, p)
	}
}

func TestP11_1OnTwist(t *testing.T) {
	for _, q := range append(noTwists(), twists(draw(14), 12)...) {
		same(t, "OnTwist", pairing.OnTwist(q), true, q)
		same(t, "OnTwist of it turned about", pairing.OnTwist(turnedTwist(q)), true, q)
		same(t, "OnTwist as told", toldOnTwist(q), true, q)
	}
	for _, q := range strangeTwists(draw(15)) {
		same(t, "OnTwist", pairing.OnTwist(q), false, q)
		same(t, "OnTwist as told", toldOnTwist(q), false, q)
	}
}

// The twist has 2 p less r times as many points as the group, some of them of small order: 10069, 5864401.
func TestP11_1OnTwistOfOtherOrders(t *testing.T) {
	d := draw(16)
	many := new(big.Int).Lsh(prime(), 1)
	many.Sub(many, order())
	for range 3 {
		q := stray(d)
		of := toldTimes(many, q)
		same(t, "whether it is None", of.None, false, q)
		same(t, "OnTwist", pairing.OnTwist(of), true, q)
		same(t, "r times it", toldTimes(order(), of), noTwist(), q)
		rest := toldTimes(order(), q)
		same(t, "OnTwist of what is left", pairing.OnTwist(rest), false, q)
		for _, small := range []int64{10069, 5864401} {
			few := toldTimes(new(big.Int).Div(many, big.NewInt(small)), rest)
			same(t, "its order", toldTimes(big.NewInt(small), few), noTwist(), q, small)
			same(t, "whether it is None", few.None, false, q, small)
			same(t, "OnTwist of small order", pairing.OnTwist(few), false, q, small)
			same(t, "OnTwist of a sum", pairing.OnTwist(toldSum(few, of)), false, q, small)
		}
	}
}

// Points of the twist's slope, but another b, of the same order: X times u u, Y times u u u.
func TestP11_1OnTwistOfOtherCurves(t *testing.T) {
	d := draw(17)
	for _, q := range twists(d, 2)[1:] {
		u := api.F2{below(d), below(d)}
		square := tower.Mul2(u, u)
		other := api.Twist{X: tower.Mul2(q.X, square), Y: tower.Mul2(q.Y, tower.Mul2(square, u))}
		same(t, "r times it", toldTimes(order(), other), noTwist(), q, u)
		same(t, "OnTwist", pairing.OnTwist(other), false, q, u)
	}
}

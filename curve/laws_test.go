package curve_test

import (
	"math/big"
	"testing"

	"bailiwick/api"
	"bailiwick/curve"
	"bailiwick/word"
)

func TestP8_4Group(t *testing.T) {
	d := draw(21)
	all := some(d, 12)
	for _, p := range all[1:] {
		all = append(all, neg(t, p), add(t, p, p))
	}
	for range 300 {
		p, q, r := pick(d, all), pick(d, all), pick(d, all)
		sum := add(t, p, q)
		same(t, "On of a sum", curve.On(sum), true, p, q)
		same(t, "p + q", sum, add(t, q, p), p, q)
		same(t, "(p + q) + r", add(t, sum, r), add(t, p, add(t, q, r)), p, q, r)
		same(t, "p + q - q", add(t, sum, neg(t, q)), p, p, q)
		same(t, "p - p", add(t, p, neg(t, p)), none(), p)
		same(t, "- p + p", add(t, neg(t, p), p), none(), p)
		same(t, "- - p", neg(t, neg(t, p)), p, p)
		same(t, "- (p + q)", neg(t, sum), add(t, neg(t, p), neg(t, q)), p, q)
		same(t, "p + None", add(t, p, none()), p, p)
	}
}

func TestP8_5Order(t *testing.T) {
	n := fromBig(order())
	for _, p := range some(draw(22), 40) {
		same(t, "n times p", mul(t, n, p), none(), p)
		same(t, "n - 1 times p", mul(t, word.Sub(n, word.Of(1)), p), neg(t, p), p)
		same(t, "n + 1 times p", mul(t, word.Add(n, word.Of(1)), p), p, p)
	}
}

func TestP8_5Times(t *testing.T) {
	d := draw(23)
	all := some(d, 12)
	l := numbers(d, 40)
	for _, j := range l {
		k, p := pick(d, l), pick(d, all)
		sum := new(big.Int).Add(toBig(j), toBig(k))
		want := add(t, mul(t, j, p), mul(t, k, p))
		same(t, "j + k times p", mul(t, fromBig(sum.Mod(sum, order())), p), want, j, k, p)
		product := new(big.Int).Mul(toBig(j), toBig(k))
		want = mul(t, j, mul(t, k, p))
		same(t, "j times k times p", mul(t, fromBig(product.Mod(product, order())), p), want, j, k, p)
	}
}

func TestP8_6Spread(t *testing.T) {
	d := draw(24)
	all := some(d, 12)
	for _, p := range all[1:] {
		all = append(all, neg(t, p))
	}
	l := numbers(d, 40)
	for _, k := range l {
		p, q := pick(d, all), pick(d, all)
		same(t, "k times p + q", mul(t, k, add(t, p, q)), two(t, k, p, k, q), k, p, q)
	}
}

// What is answered hangs on the points alone, and the points that are handed in stay as they are.
func TestP8_2Again(t *testing.T) {
	d := draw(25)
	all := append(some(d, 8), strangers()[:8]...)
	for range 30 {
		j, p, k, q := drawn(d), pick(d, all), drawn(d), pick(d, all)
		first, e := curve.Two(j, p, k, q)
		curve.Mul(k, api.Point{X: q.Y, Y: q.X})
		curve.Lift(k, true)
		again, f := curve.Two(j, p, k, q)
		same(t, "Two once more", again, first, j, p, k, q)
		same(t, "Two's error once more", f, e, j, p, k, q)
	}
}

package pairing_test

import (
	"math/big"
	"testing"

	"bailiwick/api"
	"bailiwick/pairing"
	"bailiwick/tower"
	"bailiwick/word"
)

func TestP11_5Group(t *testing.T) {
	testGroup(t, firstGroup(), 40)
}

func TestP11_5GroupTwist(t *testing.T) {
	testGroup(t, secondGroup(), 4)
}

func testGroup[P comparable](t *testing.T, g group[P], rounds int) {
	d := draw(51)
	all := g.points(d, 3)
	for _, p := range all[1:] {
		all = append(all, g.turned(p), g.added(t, p, p))
	}
	n := pairing.Order()
	for range rounds {
		p, q, r := pick(d, all), pick(d, all), pick(d, all)
		sum := g.added(t, p, q)
		same(t, "whether a sum is of the group", g.on(sum), true, p, q)
		same(t, "p + q", sum, g.added(t, q, p), p, q)
		same(t, "(p + q) + r", g.added(t, sum, r), g.added(t, p, g.added(t, q, r)), p, q, r)
		same(t, "p + q - q", g.added(t, sum, g.turned(q)), p, p, q)
		same(t, "p + None", g.added(t, p, g.none()), p, p)
		same(t, "r times p", g.taken(t, n, p), g.none(), p)
		same(t, "r and 1 times p", g.taken(t, word.Add(n, word.Of(1)), p), p, p)
		same(t, "r less 1 times p", g.taken(t, word.Sub(n, word.Of(1)), p), g.turned(p), p)
	}
}

func TestP11_5Times(t *testing.T) {
	testTimes(t, firstGroup(), 30)
}

func TestP11_5TimesTwist(t *testing.T) {
	testTimes(t, secondGroup(), 3)
}

func testTimes[P comparable](t *testing.T, g group[P], rounds int) {
	d := draw(52)
	all := g.points(d, 2)
	for range rounds {
		j, k, p, q := drawn(d), drawn(d), pick(d, all), pick(d, all)
		sum := new(big.Int).Add(toBig(j), toBig(k))
		once := g.taken(t, k, p)
		same(t, "j + k times p", g.taken(t, fromBig(sum.Mod(sum, order())), p), g.added(t, g.taken(t, j, p), once), j, k, p)
		product := new(big.Int).Mul(toBig(j), toBig(k))
		same(t, "j times k times p", g.taken(t, fromBig(product.Mod(product, order())), p), g.taken(t, j, once), j, k, p)
		same(t, "k times p + q", g.taken(t, k, g.added(t, p, q)), g.added(t, once, g.taken(t, k, q)), k, p, q)
	}
}

func TestP11_6BothWays(t *testing.T) {
	d := draw(53)
	first, second := firstGroup(), secondGroup()
	for i := range 5 {
		p, q := first.base, second.base
		if i > 0 {
			p, q = lifted(d), twists(d, 1)[2]
		}
		j, k := drawn(d), drawn(d)
		product := new(big.Int).Mul(toBig(j), toBig(k))
		want := toldExp(pair(t, p, q), product.Mod(product, order()))
		same(t, "Pair of j times p, k times q", pair(t, first.taken(t, j, p), second.taken(t, k, q)), want, j, p, k, q)
		same(t, "Pair of k times p, j times q", pair(t, first.taken(t, k, p), second.taken(t, j, q)), want, j, p, k, q)
	}
}

func TestP11_6Sums(t *testing.T) {
	d := draw(54)
	first, second := firstGroup(), secondGroup()
	l, m := first.points(d, 2), second.points(d, 2)
	for i, p := range l {
		other, q, twist := l[(i+1)%len(l)], m[i%len(m)], m[(i+1)%len(m)]
		same(t, "Pair of p + p', q", pair(t, first.added(t, p, other), q), tower.Mul12(pair(t, p, q), pair(t, other, q)), p, other, q)
		same(t, "Pair of p, q + q'", pair(t, p, second.added(t, q, twist)), tower.Mul12(pair(t, p, q), pair(t, p, twist)), p, q, twist)
		same(t, "Pair of both turned about", pair(t, turned(p), turnedTwist(q)), pair(t, p, q), p, q)
		same(t, "Pair of one turned about", tower.Mul12(pair(t, turned(p), q), pair(t, p, q)), tower.One(), p, q)
	}
}

// Pair of the bases is not 1, but to the power r it is.
func TestP11_6NotOne(t *testing.T) {
	p, q := pairing.Base()
	f := pair(t, p, q)
	same(t, "whether Pair is 1", f == tower.One(), false)
	same(t, "Pair to the power r", toldExp(f, order()), tower.One())
	seen := map[api.F12]int{}
	for k := range uint64(20) {
		got := pair(t, firstGroup().taken(t, word.Of(k), p), q)
		if j, is := seen[got]; is {
			t.Fatalf("Pair of %d and of %d times the base are the same", j, k)
		}
		seen[got] = int(k)
	}
}

// What was asked ahead plays no part, and what is handed in stays as it is.
func TestP11_6Again(t *testing.T) {
	d := draw(55)
	p, q := lifted(d), twists(d, 1)[2]
	wasP, wasQ := p, q
	want := pair(t, p, q)
	pairing.Pair(turned(p), q)
	pairing.CallPair(make([]byte, 192*3))
	pairing.Check([]api.Point{{}}, []api.Twist{q})
	same(t, "Pair once more", pair(t, p, q), want, p, q)
	same(t, "the point", p, wasP)
	same(t, "the twist's point", q, wasQ)
}

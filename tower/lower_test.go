package tower_test

import (
	"math/big"
	"testing"

	"bailiwick/api"
	"bailiwick/tower"
	"bailiwick/word"
)

func TestP10_1OfTwo2(t *testing.T) {
	for _, x := range []struct {
		name string
		got  func(a, b api.F2) api.F2
		want func(a, b told2) told2
	}{
		{"Add2", tower.Add2, toldAdd2},
		{"Sub2", tower.Sub2, toldSub2},
		{"Mul2", tower.Mul2, toldMul2},
	} {
		l := numbers2(draw(1), 40)
		for _, a := range l {
			for _, b := range l {
				same(t, x.name, x.got(a, b), plain2(x.want(tell2(a), tell2(b))), a, b)
			}
		}
	}
}

// All parts at an end, each with each.
func TestP10_1Edges2(t *testing.T) {
	d := draw(2)
	for _, x := range edges() {
		for _, y := range edges() {
			a, b := api.F2{x, y}, drawn2(d)
			same(t, "Add2", tower.Add2(a, b), plain2(toldAdd2(tell2(a), tell2(b))), a, b)
			same(t, "Sub2", tower.Sub2(a, b), plain2(toldSub2(tell2(a), tell2(b))), a, b)
			same(t, "Sub2", tower.Sub2(b, a), plain2(toldSub2(tell2(b), tell2(a))), b, a)
			same(t, "Mul2", tower.Mul2(a, b), plain2(toldMul2(tell2(a), tell2(b))), a, b)
		}
	}
}

func TestP10_1Conj2(t *testing.T) {
	for _, a := range numbers2(draw(3), 200) {
		want := plain2(told2{toBig(a[0]), new(big.Int).Neg(toBig(a[1]))})
		same(t, "Conj2", tower.Conj2(a), want, a)
	}
	for _, x := range edges() {
		same(t, "Conj2", tower.Conj2(api.F2{x}), reduced2(api.F2{x}), x)
	}
}

// inverted2 holds that a has an inverse, which is told modulo p: there is no other one.
func inverted2(t *testing.T, a api.F2) {
	t.Helper()
	got, is := tower.Inv2(a)
	same(t, "whether Inv2", is, true, a)
	same(t, "Inv2 modulo p", got, reduced2(got), a)
	same(t, "a times Inv2", plain2(toldMul2(tell2(a), tell2(got))), api.F2{word.Of(1)}, a)
}

func TestP10_1Inv2(t *testing.T) {
	none := 0
	for _, a := range numbers2(draw(4), 300) {
		if reduced2(a) != (api.F2{}) {
			inverted2(t, a)
			continue
		}
		got, is := tower.Inv2(a)
		same(t, "Inv2 of 0", got, api.F2{}, a)
		same(t, "whether Inv2 of 0", is, false, a)
		none++
	}
	if none < 9 {
		t.Fatalf("only %d numbers are 0", none)
	}
}

func TestP10_1Examples2(t *testing.T) {
	p := fromBig(prime())
	less := func(n uint64) api.Word { return word.Sub(p, word.Of(n)) }
	two := func(a, b uint64) api.F2 { return api.F2{word.Of(a), word.Of(b)} }
	same(t, "i times i", tower.Mul2(two(0, 1), two(0, 1)), api.F2{less(1)})
	same(t, "1 times i", tower.Mul2(two(1, 0), two(0, 1)), two(0, 1))
	same(t, "(1 + 2 i) (3 + 4 i)", tower.Mul2(two(1, 2), two(3, 4)), api.F2{less(5), word.Of(10)})
	same(t, "(7 + 2 i) (3 + 1 i)", tower.Mul2(two(7, 2), two(3, 1)), two(19, 13))
	same(t, "(1 + 2 i) and (3 + 4 i)", tower.Add2(two(1, 2), two(3, 4)), two(4, 6))
	same(t, "(5 + 2 i) less (3 + 4 i)", tower.Sub2(two(5, 2), two(3, 4)), api.F2{word.Of(2), less(2)})
	same(t, "-1 and 1", tower.Add2(api.F2{less(1), less(1)}, two(1, 2)), two(0, 1))
	same(t, "Conj2 of 1 + 2 i", tower.Conj2(two(1, 2)), api.F2{word.Of(1), less(2)})
	same(t, "Conj2 of 3", tower.Conj2(two(3, 0)), two(3, 0))
	same(t, "Conj2 of 0", tower.Conj2(api.F2{p, p}), api.F2{})
	got, is := tower.Inv2(two(0, 1))
	same(t, "Inv2 of i", got, api.F2{{}, less(1)})
	same(t, "whether Inv2 of i", is, true)
	got, is = tower.Inv2(api.F2{less(1), p})
	same(t, "Inv2 of -1", got, api.F2{less(1)})
	same(t, "whether Inv2 of -1", is, true)
}

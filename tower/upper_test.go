package tower_test

import (
	"math/big"
	"testing"

	"bailiwick/api"
	"bailiwick/tower"
	"bailiwick/word"
)

func TestP10_1One(t *testing.T) {
	want := at(0, api.F2{word.Of(1)})
	for range 2 {
		one := tower.One()
		same(t, "One", one, want)
		one[3][1][2] = 7
	}
	for _, a := range numbers12(draw(5), 10) {
		same(t, "a times One", tower.Mul12(a, tower.One()), reduced(a), a)
		same(t, "One times a", tower.Mul12(tower.One(), a), reduced(a), a)
	}
}

func TestP10_1Add12(t *testing.T) {
	l := numbers12(draw(6), 20)
	for _, a := range l {
		for _, b := range l {
			var want told12
			for k := range want {
				want[k] = toldAdd2(tell2(a[k]), tell2(b[k]))
			}
			same(t, "Add12", tower.Add12(a, b), plain12(want), a, b)
		}
	}
}

func TestP10_1Mul12(t *testing.T) {
	l := numbers12(draw(7), 15)
	for _, a := range l {
		for _, b := range l {
			same(t, "Mul12", tower.Mul12(a, b), plain12(toldMul12(tell12(a), tell12(b))), a, b)
		}
	}
}

// Each part times each other one: w^6 is 9 and i.
func TestP10_1Parts12(t *testing.T) {
	d := draw(8)
	for j := range 6 {
		for k := range 6 {
			a, b := drawn2(d), drawn2(d)
			product := toldMul2(tell2(a), tell2(b))
			if j+k >= 6 {
				product = toldMul2(product, told2{big.NewInt(9), big.NewInt(1)})
			}
			same(t, "Mul12 of two parts", tower.Mul12(at(j, a), at(k, b)), at((j+k)%6, plain2(product)), j, a, k, b)
		}
	}
}

func TestP10_1Conj12(t *testing.T) {
	for _, a := range numbers12(draw(9), 60) {
		want := tell12(a)
		for k := 1; k < 6; k += 2 {
			want[k] = toldSub2(tell2(api.F2{}), want[k])
		}
		same(t, "Conj12", tower.Conj12(a), plain12(want), a)
	}
	for k := range 6 {
		for _, x := range edges() {
			a, want := at(k, api.F2{x, x}), at(k, tower.Conj2(api.F2{x}))
			want[k][1] = want[k][0]
			if k%2 == 1 {
				want[k] = tower.Sub2(api.F2{}, want[k])
			}
			same(t, "Conj12 of one part", tower.Conj12(a), want, a)
		}
	}
}

// inverted12 holds that a has an inverse, which is told modulo p: there is no other one.
func inverted12(t *testing.T, a api.F12) {
	t.Helper()
	got, is := tower.Inv12(a)
	same(t, "whether Inv12", is, true, a)
	same(t, "Inv12 modulo p", got, reduced(got), a)
	same(t, "a times Inv12", plain12(toldMul12(tell12(a), tell12(got))), at(0, api.F2{word.Of(1)}), a)
}

func TestP10_1Inv12(t *testing.T) {
	none := 0
	for _, a := range numbers12(draw(10), 60) {
		if reduced(a) != (api.F12{}) {
			inverted12(t, a)
			continue
		}
		got, is := tower.Inv12(a)
		same(t, "Inv12 of 0", got, api.F12{}, a)
		same(t, "whether Inv12 of 0", is, false, a)
		none++
	}
	if none < 3 {
		t.Fatalf("only %d numbers are 0", none)
	}
}

// Numbers without an even half, without an odd one, and with just some parts.
func TestP10_1InvOfFewParts(t *testing.T) {
	d := draw(11)
	for which := 1; which < 64; which++ {
		a := drawn12(d)
		for k := range a {
			if which>>k&1 == 0 {
				a[k] = api.F2{}
			} else {
				a[k][0][0] |= 1 << 60
			}
		}
		if reduced(a) != (api.F12{}) {
			inverted12(t, a)
		}
	}
}

// Each of the parts alone may be what makes a number another one than 0.
func TestP10_1InvOfOnePart(t *testing.T) {
	p := fromBig(prime())
	for k := range 6 {
		for i := range 2 {
			for _, x := range []api.Word{word.Of(1), word.Sub(p, word.Of(1)), word.Add(p, word.Of(3))} {
				var a api.F12
				for j := range a {
					a[j] = api.F2{p, p}
				}
				a[k][i] = x
				inverted12(t, a)
			}
		}
	}
}

func TestP10_1Examples12(t *testing.T) {
	p := fromBig(prime())
	minus := word.Sub(p, word.Of(1))
	w := at(1, api.F2{word.Of(1)})
	lifted := api.F2{word.Of(9), word.Of(1)}
	same(t, "w^5 times w", tower.Mul12(at(5, api.F2{word.Of(1)}), w), at(0, lifted))
	same(t, "w^3 times w^3", tower.Mul12(at(3, api.F2{word.Of(1)}), at(3, api.F2{word.Of(1)})), at(0, lifted))
	same(t, "w^5 times w^5", tower.Mul12(at(5, api.F2{word.Of(1)}), at(5, api.F2{word.Of(1)})), at(4, lifted))
	same(t, "w^2 times w^3", tower.Mul12(at(2, api.F2{word.Of(1)}), at(3, api.F2{word.Of(1)})), at(5, api.F2{word.Of(1)}))
	same(t, "i w times i w", tower.Mul12(at(1, api.F2{{}, word.Of(1)}), at(1, api.F2{{}, word.Of(1)})), at(2, api.F2{minus}))
	same(t, "w and w", tower.Add12(w, w), at(1, api.F2{word.Of(2)}))
	same(t, "-1 and 1", tower.Add12(at(0, api.F2{minus}), tower.One()), api.F12{})
	same(t, "Conj12 of w", tower.Conj12(w), at(1, api.F2{minus}))
	same(t, "Conj12 of w^2", tower.Conj12(at(2, lifted)), at(2, lifted))
	same(t, "Conj12 of i", tower.Conj12(at(0, api.F2{p, word.Of(1)})), at(0, api.F2{{}, word.Of(1)}))
}

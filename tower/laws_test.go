package tower_test

import (
	"testing"

	"bailiwick/api"
	"bailiwick/nat"
	"bailiwick/tower"
	"bailiwick/word"
)

func TestP10_2Fields2(t *testing.T) {
	d := draw(21)
	l := numbers2(d, 60)
	for range 3000 {
		a, b, c := pick(d, l), pick(d, l), pick(d, l)
		sum, product := tower.Add2(a, b), tower.Mul2(a, b)
		same(t, "a + b", sum, tower.Add2(b, a), a, b)
		same(t, "a b", product, tower.Mul2(b, a), a, b)
		same(t, "(a + b) + c", tower.Add2(sum, c), tower.Add2(a, tower.Add2(b, c)), a, b, c)
		same(t, "(a b) c", tower.Mul2(product, c), tower.Mul2(a, tower.Mul2(b, c)), a, b, c)
		same(t, "(a + b) c", tower.Mul2(sum, c), tower.Add2(tower.Mul2(a, c), tower.Mul2(b, c)), a, b, c)
		same(t, "(a - b) + b", tower.Add2(tower.Sub2(a, b), b), reduced2(a), a, b)
		same(t, "a - a", tower.Sub2(a, a), api.F2{}, a)
		same(t, "Conj2 of Conj2", tower.Conj2(tower.Conj2(a)), reduced2(a), a)
		same(t, "Conj2 of a b", tower.Conj2(product), tower.Mul2(tower.Conj2(a), tower.Conj2(b)), a, b)
		same(t, "Conj2 of a + b", tower.Conj2(sum), tower.Add2(tower.Conj2(a), tower.Conj2(b)), a, b)
	}
}

func TestP10_2Inverses2(t *testing.T) {
	for _, a := range numbers2(draw(22), 100) {
		inverse, is := tower.Inv2(a)
		same(t, "whether Inv2", is, reduced2(a) != api.F2{}, a)
		if is {
			same(t, "a times Inv2", tower.Mul2(a, inverse), api.F2{word.Of(1)}, a)
			back, _ := tower.Inv2(inverse)
			same(t, "Inv2 of Inv2", back, reduced2(a), a)
		}
	}
}

func TestP10_2Fields12(t *testing.T) {
	d := draw(23)
	l := numbers12(d, 20)
	for range 400 {
		a, b, c := pick(d, l), pick(d, l), pick(d, l)
		sum, product := tower.Add12(a, b), tower.Mul12(a, b)
		same(t, "a + b", sum, tower.Add12(b, a), a, b)
		same(t, "a b", product, tower.Mul12(b, a), a, b)
		same(t, "(a + b) + c", tower.Add12(sum, c), tower.Add12(a, tower.Add12(b, c)), a, b, c)
		same(t, "(a b) c", tower.Mul12(product, c), tower.Mul12(a, tower.Mul12(b, c)), a, b, c)
		same(t, "(a + b) c", tower.Mul12(sum, c), tower.Add12(tower.Mul12(a, c), tower.Mul12(b, c)), a, b, c)
		same(t, "Conj12 of Conj12", tower.Conj12(tower.Conj12(a)), reduced(a), a)
		same(t, "Conj12 of a b", tower.Conj12(product), tower.Mul12(tower.Conj12(a), tower.Conj12(b)), a, b)
		same(t, "Conj12 of a + b", tower.Conj12(sum), tower.Add12(tower.Conj12(a), tower.Conj12(b)), a, b)
	}
}

func TestP10_2Inverses12(t *testing.T) {
	for _, a := range numbers12(draw(24), 30) {
		inverse, is := tower.Inv12(a)
		same(t, "whether Inv12", is, reduced(a) != api.F12{}, a)
		if is {
			same(t, "a times Inv12", tower.Mul12(a, inverse), tower.One(), a)
			back, _ := tower.Inv12(inverse)
			same(t, "Inv12 of Inv12", back, reduced(a), a)
		}
	}
}

// F2 lies in F12: its numbers are those of one part.
func TestP10_2Lower(t *testing.T) {
	d := draw(25)
	l := numbers2(d, 60)
	for range 300 {
		a, b := pick(d, l), pick(d, l)
		same(t, "Add12 of F2", tower.Add12(at(0, a), at(0, b)), at(0, tower.Add2(a, b)), a, b)
		same(t, "Mul12 of F2", tower.Mul12(at(0, a), at(0, b)), at(0, tower.Mul2(a, b)), a, b)
		want, found := tower.Inv2(a)
		got, is := tower.Inv12(at(0, a))
		same(t, "Inv12 of F2", got, at(0, want), a)
		same(t, "whether Inv12 of F2", is, found, a)
	}
}

func TestP10_3Powers(t *testing.T) {
	d := draw(26)
	l := numbers12(d, 20)
	for range 200 {
		a, b := pick(d, l), pick(d, l)
		same(t, "Power of a + b", tower.Power(tower.Add12(a, b)), tower.Add12(tower.Power(a), tower.Power(b)), a, b)
		same(t, "Power of a b", tower.Power(tower.Mul12(a, b)), tower.Mul12(tower.Power(a), tower.Power(b)), a, b)
		same(t, "whether Power is one", tower.Power(a) == tower.Power(b), reduced(a) == reduced(b), a, b)
	}
}

func TestP10_3TwelveTimes(t *testing.T) {
	d := draw(27)
	for _, a := range numbers12(d, 40) {
		x := a
		for k := range 12 {
			if k == 6 {
				same(t, "Power six times", x, tower.Conj12(a), a)
			}
			x = tower.Power(x)
		}
		same(t, "Power twelve times", x, reduced(a), a)
	}
	// Of a number of F12 that lies in no lower field not fewer times.
	a := drawn12(d)
	for k, x := 1, tower.Power(a); k < 12; k, x = k+1, tower.Power(x) {
		same(t, "whether Power is the number", x == reduced(a), false, a, k)
	}
}

func TestP10_3PowerOfF2(t *testing.T) {
	for _, a := range numbers2(draw(28), 200) {
		same(t, "Power of F2", tower.Power(at(0, a)), at(0, tower.Conj2(a)), a)
	}
}

func TestP10_3Exponents(t *testing.T) {
	d := draw(29)
	for range 12 {
		a, b := drawn12(d), drawn12(d)
		j, k := ofParts(d, 1+d.IntN(5)), ofParts(d, 1+d.IntN(5))
		sum, _ := nat.Add(j, k)
		product, _ := nat.Mul(j, k)
		same(t, "a to the power j + k", exp12(t, a, sum), tower.Mul12(exp12(t, a, j), exp12(t, a, k)), a, j, k)
		same(t, "a to the power j k", exp12(t, a, product), exp12(t, exp12(t, a, j), k), a, j, k)
		same(t, "a b to the power j", exp12(t, tower.Mul12(a, b), j), tower.Mul12(exp12(t, a, j), exp12(t, b, j)), a, b, j)
		same(t, "Power of a to the power j", tower.Power(exp12(t, a, j)), exp12(t, tower.Power(a), j), a, j)
	}
}

// What was asked ahead plays no part, and what is handed in stays as it is.
func TestP10_1Again(t *testing.T) {
	d := draw(30)
	for range 30 {
		a, b := drawn12(d), drawn12(d)
		wasA, wasB := a, b
		product := tower.Mul12(a, b)
		inverse, _ := tower.Inv12(a)
		power := tower.Power(b)
		tower.Mul2(a[3], b[2])
		tower.Exp12(b, api.Nat{99})
		again, _ := tower.Inv12(a)
		same(t, "Mul12 once more", tower.Mul12(a, b), product, a, b)
		same(t, "Inv12 once more", again, inverse, a)
		same(t, "Power once more", tower.Power(b), power, b)
		same(t, "what was handed in", [2]api.F12{a, b}, [2]api.F12{wasA, wasB})
	}
}

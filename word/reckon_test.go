package word_test

import (
	"math/big"
	"testing"

	"bailiwick/api"
	"bailiwick/word"
)

type (
	two   func(a, b api.Word) api.Word
	three func(a, b, c api.Word) api.Word
)

// unlessNought is what f makes of x and y; 0, if y is 0.
func unlessNought(f func(z, x, y *big.Int) *big.Int, x, y *big.Int) *big.Int {
	if y.Sign() == 0 {
		return new(big.Int)
	}
	return f(new(big.Int), x, y)
}

// ofTwo are the functions of two words, and what they should tell.
func ofTwo() []struct {
	name string
	got  two
	want func(a, b api.Word) *big.Int
} {
	return []struct {
		name string
		got  two
		want func(a, b api.Word) *big.Int
	}{
		{"Add", word.Add, func(a, b api.Word) *big.Int { return new(big.Int).Add(toBig(a), toBig(b)) }},
		{"Sub", word.Sub, func(a, b api.Word) *big.Int { return new(big.Int).Sub(toBig(a), toBig(b)) }},
		{"Mul", word.Mul, func(a, b api.Word) *big.Int { return new(big.Int).Mul(toBig(a), toBig(b)) }},
		{"Div", word.Div, func(a, b api.Word) *big.Int { return unlessNought((*big.Int).Quo, toBig(a), toBig(b)) }},
		{"Mod", word.Mod, func(a, b api.Word) *big.Int { return unlessNought((*big.Int).Rem, toBig(a), toBig(b)) }},
		{"SDiv", word.SDiv, func(a, b api.Word) *big.Int { return unlessNought((*big.Int).Quo, toSigned(a), toSigned(b)) }},
		{"SMod", word.SMod, func(a, b api.Word) *big.Int { return unlessNought((*big.Int).Rem, toSigned(a), toSigned(b)) }},
	}
}

func TestP1_1OfTwo(t *testing.T) {
	for _, l := range [][]api.Word{edges(), samples()} {
		for _, f := range ofTwo() {
			for _, a := range l {
				for _, b := range l {
					same(t, f.name, f.got(a, b), fromBig(f.want(a, b)), a, b)
				}
			}
		}
	}
}

func TestP1_1Examples(t *testing.T) {
	least := api.Word{0, 0, 0, 1 << 63}
	for _, x := range []struct {
		name      string
		got, want api.Word
	}{
		{"1 + 2", word.Add(word.Of(1), word.Of(2)), word.Of(3)},
		{"-1 + 1", word.Add(neg(1), word.Of(1)), word.Of(0)},
		{"2 - 3", word.Sub(word.Of(2), word.Of(3)), neg(1)},
		{"2^64 * 2^128", word.Mul(api.Word{0, 1}, api.Word{0, 0, 1}), api.Word{0, 0, 0, 1}},
		{"2^128 * 2^128", word.Mul(api.Word{0, 0, 1}, api.Word{0, 0, 1}), word.Of(0)},
		{"7 / 2", word.Div(word.Of(7), word.Of(2)), word.Of(3)},
		{"7 / 0", word.Div(word.Of(7), word.Of(0)), word.Of(0)},
		{"7 % 4", word.Mod(word.Of(7), word.Of(4)), word.Of(3)},
		{"7 % 0", word.Mod(word.Of(7), word.Of(0)), word.Of(0)},
		{"-7 / 2", word.SDiv(neg(7), word.Of(2)), neg(3)},
		{"7 / -2", word.SDiv(word.Of(7), neg(2)), neg(3)},
		{"-7 / -2", word.SDiv(neg(7), neg(2)), word.Of(3)},
		{"-7 / 0", word.SDiv(neg(7), word.Of(0)), word.Of(0)},
		{"least / -1", word.SDiv(least, neg(1)), least},
		{"-7 % 2", word.SMod(neg(7), word.Of(2)), neg(1)},
		{"7 % -2", word.SMod(word.Of(7), neg(2)), word.Of(1)},
		{"-7 % -2", word.SMod(neg(7), neg(2)), neg(1)},
		{"-7 % 0", word.SMod(neg(7), word.Of(0)), word.Of(0)},
		{"least % -1", word.SMod(least, neg(1)), word.Of(0)},
	} {
		same(t, x.name, x.got, x.want)
	}
}

// ofThree are the functions of three words, and what they should tell.
func ofThree() []struct {
	name string
	got  three
	want func(a, b *big.Int) *big.Int
} {
	return []struct {
		name string
		got  three
		want func(a, b *big.Int) *big.Int
	}{
		{"AddMod", word.AddMod, func(a, b *big.Int) *big.Int { return new(big.Int).Add(a, b) }},
		{"MulMod", word.MulMod, func(a, b *big.Int) *big.Int { return new(big.Int).Mul(a, b) }},
	}
}

func TestP1_1OfThree(t *testing.T) {
	s := stream(2)
	l := all()
	for _, f := range ofThree() {
		for range 150_000 {
			a, b, m := s.pick(l), s.pick(l), s.pick(l)
			want := unlessNought((*big.Int).Rem, f.want(toBig(a), toBig(b)), toBig(m))
			same(t, f.name, f.got(a, b, m), fromBig(want), a, b, m)
		}
		for range 20_000 {
			a, b, m := s.word(), s.word(), s.word()
			want := unlessNought((*big.Int).Rem, f.want(toBig(a), toBig(b)), toBig(m))
			same(t, f.name, f.got(a, b, m), fromBig(want), a, b, m)
		}
	}
}

func TestP1_1OfThreeExamples(t *testing.T) {
	for _, x := range []struct {
		name      string
		got, want api.Word
	}{
		{"(-1 + 2) mod 2", word.AddMod(neg(1), word.Of(2), word.Of(2)), word.Of(1)},
		{"(-1 + -1) mod -1", word.AddMod(neg(1), neg(1), neg(1)), word.Of(0)},
		{"(-1 + -2) mod -1", word.AddMod(neg(1), neg(2), neg(1)), neg(2)},
		{"(3 + 4) mod 0", word.AddMod(word.Of(3), word.Of(4), word.Of(0)), word.Of(0)},
		{"(3 + 4) mod 1", word.AddMod(word.Of(3), word.Of(4), word.Of(1)), word.Of(0)},
		{"(-1 * -1) mod 12", word.MulMod(neg(1), neg(1), word.Of(12)), word.Of(9)},
		{"(-1 * -2) mod -1", word.MulMod(neg(1), neg(2), neg(1)), word.Of(0)},
		{"(2^128 * 2^128) mod -1", word.MulMod(api.Word{0, 0, 1}, api.Word{0, 0, 1}, neg(1)), word.Of(1)},
		{"(3 * 4) mod 0", word.MulMod(word.Of(3), word.Of(4), word.Of(0)), word.Of(0)},
	} {
		same(t, x.name, x.got, x.want)
	}
}

func TestP1_1Exp(t *testing.T) {
	l := samples()
	for i := 0; i < len(l); i += 3 {
		for j := 0; j < len(l); j += 4 {
			want := new(big.Int).Exp(toBig(l[i]), toBig(l[j]), modulus())
			same(t, "Exp", word.Exp(l[i], l[j]), fromBig(want), l[i], l[j])
		}
	}
	for _, a := range l {
		same(t, "Exp", word.Exp(a, word.Of(0)), word.Of(1), a)
		same(t, "Exp", word.Exp(a, word.Of(1)), a, a)
	}
	same(t, "Exp", word.Exp(word.Of(0), word.Of(0)), word.Of(1))
	same(t, "Exp", word.Exp(word.Of(0), neg(1)), word.Of(0))
	same(t, "Exp", word.Exp(word.Of(2), word.Of(255)), api.Word{0, 0, 0, 1 << 63})
	same(t, "Exp", word.Exp(word.Of(2), word.Of(256)), word.Of(0))
	same(t, "Exp", word.Exp(neg(1), neg(1)), neg(1))
}

func TestP1_4Ring(t *testing.T) {
	s := stream(4)
	l := all()
	for range 50_000 {
		a, b, c := s.pick(l), s.pick(l), s.pick(l)
		same(t, "a + b", word.Add(a, b), word.Add(b, a), a, b)
		same(t, "a * b", word.Mul(a, b), word.Mul(b, a), a, b)
		same(t, "(a + b) + c", word.Add(word.Add(a, b), c), word.Add(a, word.Add(b, c)), a, b, c)
		same(t, "(a * b) * c", word.Mul(word.Mul(a, b), c), word.Mul(a, word.Mul(b, c)), a, b, c)
		same(t, "a * (b + c)", word.Mul(a, word.Add(b, c)), word.Add(word.Mul(a, b), word.Mul(a, c)), a, b, c)
		same(t, "(a + b) - b", word.Sub(word.Add(a, b), b), a, a, b)
		same(t, "a - a", word.Sub(a, a), word.Of(0), a)
		same(t, "a + 0", word.Add(a, word.Of(0)), a, a)
		same(t, "a * 1", word.Mul(a, word.Of(1)), a, a)
	}
}

// magnitude is a signed one without its sign.
func magnitude(a api.Word) api.Word {
	if word.SCmp(a, word.Of(0)) < 0 {
		return word.Sub(word.Of(0), a)
	}
	return a
}

func TestP1_5Division(t *testing.T) {
	s := stream(5)
	l := all()
	for range 50_000 {
		a, b := s.pick(l), s.pick(l)
		if b == word.Of(0) {
			continue
		}
		rest := word.Mod(a, b)
		same(t, "quotient * b + rest", word.Add(word.Mul(word.Div(a, b), b), rest), a, a, b)
		same(t, "rest against b", word.Cmp(rest, b), -1, a, b)
		rest = word.SMod(a, b)
		same(t, "signed quotient * b + rest", word.Add(word.Mul(word.SDiv(a, b), b), rest), a, a, b)
		same(t, "signed rest against b", word.Cmp(magnitude(rest), magnitude(b)), -1, a, b)
		if rest != word.Of(0) {
			same(t, "sign of the rest", word.SCmp(rest, word.Of(0)), word.SCmp(a, word.Of(0)), a, b)
		}
	}
}

func TestP1_7Powers(t *testing.T) {
	s := stream(7)
	l := samples()
	for range 2_000 {
		a, b, c := s.pick(l), s.pick(l), s.pick(l)
		sum := word.Add(b, c)
		if word.Cmp(sum, b) < 0 {
			continue
		}
		same(t, "a to the power b + c", word.Exp(a, sum), word.Mul(word.Exp(a, b), word.Exp(a, c)), a, b, c)
	}
}

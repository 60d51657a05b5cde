package field_test

import (
	"math/big"
	"testing"

	"bailiwick/api"
	"bailiwick/field"
	"bailiwick/word"
)

func TestP7_4Ring(t *testing.T) {
	d := draw(15)
	for _, m := range moduli() {
		f := of(t, m)
		l := numbers(d, m)
		for range 40 {
			a, b, c := pick(d, l), pick(d, l), pick(d, l)
			same(t, "a + b", f.Add(a, b), f.Add(b, a), m, a, b)
			same(t, "a * b", f.Mul(a, b), f.Mul(b, a), m, a, b)
			same(t, "(a + b) + c", f.Add(f.Add(a, b), c), f.Add(a, f.Add(b, c)), m, a, b, c)
			same(t, "(a * b) * c", f.Mul(f.Mul(a, b), c), f.Mul(a, f.Mul(b, c)), m, a, b, c)
			same(t, "a * (b + c)", f.Mul(a, f.Add(b, c)), f.Add(f.Mul(a, b), f.Mul(a, c)), m, a, b, c)
			same(t, "a - b", f.Sub(a, b), f.Add(a, f.Neg(b)), m, a, b)
			same(t, "a - b + b", f.Add(f.Sub(a, b), b), f.Of(a), m, a, b)
			same(t, "a + 0", f.Add(a, api.Word{}), f.Of(a), m, a)
			same(t, "a * 1", f.Mul(a, word.Of(1)), f.Of(a), m, a)
		}
	}
}

func TestP7_4Powers(t *testing.T) {
	d := draw(16)
	for _, m := range append(curves(), ofLength(d, 4), ofLength(d, 64), ofLength(d, 129), ofLength(d, 256)) {
		f := of(t, m)
		for range 30 {
			a, b := drawn(d, 256), drawn(d, 256)
			j, k := drawn(d, 255), drawn(d, 255)
			same(t, "a to the power j + k", f.Exp(a, word.Add(j, k)), f.Mul(f.Exp(a, j), f.Exp(a, k)), m, a, j, k)
			same(t, "a * b to the power j", f.Exp(f.Mul(a, b), j), f.Mul(f.Exp(a, j), f.Exp(b, j)), m, a, b, j)
		}
	}
}

// inverted holds that a has an inverse, the only one that there is.
func inverted(t *testing.T, f *field.Field, a api.Word) {
	t.Helper()
	m := f.Modulus()
	got, is := f.Inv(a)
	same(t, "whether Inv", is, true, m, a)
	same(t, "a times Inv", f.Mul(a, got), word.Of(1), m, a)
	same(t, "Inv", got, word.From(new(big.Int).ModInverse(toBig(a), toBig(m)).Bytes()), m, a)
}

func TestP7_4Inverses(t *testing.T) {
	for _, m := range smallPrimes() {
		f := of(t, word.Of(m))
		for a := uint64(1); a < m; a++ {
			inverted(t, f, word.Of(a))
		}
	}
	d := draw(17)
	for _, m := range append(append(curves(), primes(5, 1)...), primes(5, 3)...) {
		f := of(t, m)
		for _, a := range numbers(d, m) {
			if f.Of(a) != (api.Word{}) {
				inverted(t, f, a)
			}
		}
		for _, a := range []api.Word{{}, m} {
			got, is := f.Inv(a)
			same(t, "Inv of 0", got, api.Word{}, m)
			same(t, "whether Inv of 0", is, false, m)
		}
	}
}

// justOneRoot holds that just one of a and m less a has a root, and that it is one.
func justOneRoot(t *testing.T, f *field.Field, a api.Word) {
	t.Helper()
	m := f.Modulus()
	one, isOne := f.Sqrt(a)
	other, isOther := f.Sqrt(word.Sub(m, f.Of(a)))
	same(t, "whether the one, not the other has a root", isOne, !isOther, m, a)
	if isOne {
		same(t, "the square of the root", f.Mul(one, one), f.Of(a), m, a)
		same(t, "the root that is none", other, api.Word{}, m, a)
	} else {
		same(t, "the square of the other's root", f.Mul(other, other), f.Neg(a), m, a)
		same(t, "the root that is none", one, api.Word{}, m, a)
	}
}

func TestP7_5Roots(t *testing.T) {
	for _, m := range smallPrimes() {
		f := of(t, word.Of(m))
		for a := uint64(1); a < m && m%4 == 3; a++ {
			justOneRoot(t, f, word.Of(a))
		}
	}
	d := draw(18)
	for _, m := range append(primes(5, 3), curves()[0], curves()[2]) {
		f := of(t, m)
		for _, a := range numbers(d, m) {
			if f.Of(a) != (api.Word{}) {
				justOneRoot(t, f, a)
			}
		}
	}
}

func TestP7_6Inverses(t *testing.T) {
	d := draw(19)
	for _, f := range []*field.Field{field.Curve(), field.Order(), field.Base()} {
		l := append(numbers(d, f.Modulus()), word.Of(3), word.Of(1<<40))
		for _, a := range l {
			b := pick(d, l)
			if f.Of(a) == (api.Word{}) || f.Of(b) == (api.Word{}) {
				continue
			}
			x, isX := f.Inv(a)
			y, isY := f.Inv(b)
			both, isBoth := f.Inv(f.Mul(a, b))
			back, isBack := f.Inv(x)
			same(t, "whether all have inverses", isX && isY && isBoth && isBack, true, a, b)
			same(t, "the inverse's inverse", back, f.Of(a), a)
			same(t, "the product's inverse", both, f.Mul(x, y), a, b)
		}
	}
}

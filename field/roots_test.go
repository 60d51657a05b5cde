package field_test

import (
	"math"
	"math/big"
	"testing"

	"bailiwick/api"
	"bailiwick/word"
)

// inverse is what Inv should tell, by the chapter's words.
func inverse(a, m *big.Int) (api.Word, bool) {
	x := new(big.Int).Exp(a, new(big.Int).Sub(m, big.NewInt(2)), m)
	times := new(big.Int).Mul(x, a)
	if times.Mod(times, m).Cmp(big.NewInt(1)) != 0 {
		return api.Word{}, false
	}
	return fromBig(x, m), true
}

// root is what Sqrt should tell, by the chapter's words.
func root(a, m *big.Int) (api.Word, bool) {
	if m.Bit(0) != 1 || m.Bit(1) != 1 {
		return api.Word{}, false
	}
	quarter := new(big.Int).Add(m, big.NewInt(1))
	x := new(big.Int).Exp(a, quarter.Rsh(quarter, 2), m)
	square := new(big.Int).Mul(x, x)
	if square.Sub(square, a).Mod(square, m).Sign() != 0 {
		return api.Word{}, false
	}
	return fromBig(x, m), true
}

// asTold holds Inv and Sqrt of a modulo m against the chapter's words.
func asTold(t *testing.T, m, a api.Word) {
	t.Helper()
	f := of(t, m)
	want, found := inverse(toBig(a), toBig(m))
	got, is := f.Inv(a)
	same(t, "Inv", got, want, m, a)
	same(t, "whether Inv", is, found, m, a)
	want, found = root(toBig(a), toBig(m))
	got, is = f.Sqrt(a)
	same(t, "Sqrt", got, want, m, a)
	same(t, "whether Sqrt", is, found, m, a)
}

func TestP7_2EachSmall(t *testing.T) {
	for m := uint64(3); m < 130; m += 2 {
		for a := range 2*m + 2 {
			asTold(t, word.Of(m), word.Of(a))
		}
	}
}

func TestP7_2EachModulus(t *testing.T) {
	d := draw(10)
	for _, m := range moduli() {
		l := numbers(d, m)
		for range 5 {
			asTold(t, m, pick(d, l))
		}
	}
}

func TestP7_2Primes(t *testing.T) {
	d := draw(11)
	for _, m := range append(append(curves(), primes(9, 1)...), primes(9, 3)...) {
		f := of(t, m)
		for _, a := range numbers(d, m) {
			asTold(t, m, a)
			square := f.Mul(a, a)
			asTold(t, m, square)
			got, is := f.Sqrt(square)
			same(t, "whether a square has a root", is, m[0]%4 == 3, m, a)
			if is && got != f.Of(a) {
				same(t, "a root of a square", f.Neg(got), f.Of(a), m, a)
			}
		}
	}
}

func TestP7_2Examples(t *testing.T) {
	for _, x := range []struct {
		m, a, inverse uint64
		hasInverse    bool
		root          uint64
		hasRoot       bool
	}{
		{7, 3, 5, true, 0, false},
		{7, 2, 4, true, 4, true},
		{7, 10, 5, true, 0, false},
		{7, 9, 4, true, 4, true},
		{7, 0, 0, false, 0, true},
		{7, 7, 0, false, 0, true},
		{7, 1, 1, true, 1, true},
		{7, 6, 6, true, 0, false},
		{3, 0, 0, false, 0, true},
		{3, 1, 1, true, 1, true},
		{3, 2, 2, true, 0, false},
		{3, 4, 1, true, 1, true},
		{5, 4, 4, true, 0, false},
		{5, 1, 1, true, 0, false},
		{5, 0, 0, false, 0, false},
		{13, 2, 7, true, 0, false},
		{15, 4, 4, true, 0, false},
		{15, 2, 0, false, 0, false},
		{15, 14, 14, true, 0, false},
		{15, 6, 0, false, 6, true},
		{15, 1, 1, true, 1, true},
		{15, 10, 0, false, 10, true},
		{9, 4, 0, false, 0, false},
		{35, 1, 1, true, 1, true},
		{35, 4, 0, false, 0, false},
		{35, 29, 29, true, 0, false},
		{561, 2, 281, true, 0, false},
		{561, 3, 0, false, 0, false},
	} {
		f := of(t, word.Of(x.m))
		got, is := f.Inv(word.Of(x.a))
		same(t, "Inv", got, word.Of(x.inverse), x.m, x.a)
		same(t, "whether Inv", is, x.hasInverse, x.m, x.a)
		got, is = f.Sqrt(word.Of(x.a))
		same(t, "Sqrt", got, word.Of(x.root), x.m, x.a)
		same(t, "whether Sqrt", is, x.hasRoot, x.m, x.a)
	}
}

// The sum of m and 1 is not taken modulo 2^256: of the greatest m it would be 0.
func TestP7_2GreatestModulus(t *testing.T) {
	d := draw(12)
	greatest := api.Word{math.MaxUint64, math.MaxUint64, math.MaxUint64, math.MaxUint64}
	for _, a := range append(numbers(d, greatest), word.Of(4), word.Of(16)) {
		asTold(t, greatest, a)
	}
	f := of(t, greatest)
	square := fromHex(t, "d2ca42bd3fa4dedc2d35bd42c05b2123d2ca42bd3fa4dedc2d35bd42c05b2124")
	got, is := f.Sqrt(square)
	same(t, "Sqrt", got, fromHex(t, "63f87f2b9fa16f3c9c0780d4605e90c363f87f2b9fa16f3c9c0780d4605e90c4"), square)
	same(t, "whether Sqrt", is, true, square)
	got, is = f.Sqrt(word.Of(4))
	same(t, "Sqrt", got, api.Word{}, "the greatest m and 4")
	same(t, "whether Sqrt", is, false, "the greatest m and 4")
	got, is = f.Inv(power(128))
	same(t, "Inv", got, power(128), "the greatest m and 2^128")
	same(t, "whether Inv", is, true, "the greatest m and 2^128")
}

package field_test

import (
	"math"
	"math/big"
	"testing"

	"bailiwick/api"
	"bailiwick/field"
	"bailiwick/word"
)

func TestP7_1New(t *testing.T) {
	for _, m := range moduli() {
		f := of(t, m)
		same(t, "Modulus", f.Modulus(), m)
		f.Inv(f.Mul(m, word.Of(2)))
		same(t, "Modulus behind other calls", f.Modulus(), m)
	}
}

// refused holds that New answers none and ErrArg.
func refused(t *testing.T, m api.Word) {
	t.Helper()
	if f, e := field.New(m); f != nil || e != api.ErrArg {
		t.Fatalf("New(%v): got %v and %v", m, f, e)
	}
}

func TestP7_1NewRefuses(t *testing.T) {
	refused(t, api.Word{})
	refused(t, word.Of(1))
	refused(t, word.Of(2))
	for _, m := range moduli() {
		refused(t, word.Sub(m, word.Of(1)))
		refused(t, word.Add(m, word.Of(1)))
	}
	for k := 1; k < 256; k++ {
		refused(t, power(k))
	}
	// What is odd but for its lowest part is even.
	refused(t, api.Word{0, 1, 1, 1})
	refused(t, api.Word{math.MaxUint64 - 1, math.MaxUint64, math.MaxUint64, math.MaxUint64})
}

// What is 1 in its lowest part alone is not 1.
func TestP7_1NewTakes(t *testing.T) {
	for _, m := range []api.Word{{3}, {1, 1}, {1, 0, 1}, {1, 0, 0, 1}, {1, 0, 0, 1 << 63}, {math.MaxUint64, math.MaxUint64, math.MaxUint64, math.MaxUint64}} {
		same(t, "Modulus", of(t, m).Modulus(), m)
	}
}

func TestP7_1OfOne(t *testing.T) {
	d := draw(3)
	for _, m := range moduli() {
		f, by := of(t, m), toBig(m)
		for _, a := range numbers(d, m) {
			same(t, "Of", f.Of(a), fromBig(toBig(a), by), m, a)
			same(t, "Neg", f.Neg(a), fromBig(new(big.Int).Neg(toBig(a)), by), m, a)
		}
	}
}

// ofTwo are the functions of two numbers, and what they should tell ahead of taking it modulo m.
func ofTwo() []struct {
	name string
	got  func(f *field.Field, a, b api.Word) api.Word
	want func(z, a, b *big.Int) *big.Int
} {
	return []struct {
		name string
		got  func(f *field.Field, a, b api.Word) api.Word
		want func(z, a, b *big.Int) *big.Int
	}{
		{"Add", (*field.Field).Add, (*big.Int).Add},
		{"Sub", (*field.Field).Sub, (*big.Int).Sub},
		{"Mul", (*field.Field).Mul, (*big.Int).Mul},
	}
}

func TestP7_1OfTwo(t *testing.T) {
	d := draw(4)
	for _, m := range moduli() {
		f, by := of(t, m), toBig(m)
		l := numbers(d, m)
		for _, x := range ofTwo() {
			for _, a := range l {
				for range 6 {
					b := pick(d, l)
					same(t, x.name, x.got(f, a, b), fromBig(x.want(new(big.Int), toBig(a), toBig(b)), by), m, a, b)
				}
			}
		}
	}
}

// Of some moduli all pairs of numbers, and many more.
func TestP7_1OfTwoAll(t *testing.T) {
	d := draw(5)
	greatest := api.Word{math.MaxUint64, math.MaxUint64, math.MaxUint64, math.MaxUint64}
	for _, m := range append(curves(), word.Of(3), greatest, ofLength(d, 64), ofLength(d, 65), ofLength(d, 255)) {
		f, by := of(t, m), toBig(m)
		l := numbers(d, m)
		for range 60 {
			l = append(l, drawn(d, 256), drawn(d, word.Len(m)))
		}
		for _, x := range ofTwo() {
			for _, a := range l {
				for _, b := range l {
					same(t, x.name, x.got(f, a, b), fromBig(x.want(new(big.Int), toBig(a), toBig(b)), by), m, a, b)
				}
			}
		}
	}
}

// Of small ones all.
func TestP7_1Small(t *testing.T) {
	for m := uint64(3); m < 40; m += 2 {
		f := of(t, word.Of(m))
		for a := range 2*m + 2 {
			for b := range 2*m + 2 {
				x, y := word.Of(a), word.Of(b)
				same(t, "Add", f.Add(x, y), word.Of((a+b)%m), m, a, b)
				same(t, "Sub", f.Sub(x, y), word.Of((a+3*m-b)%m), m, a, b)
				same(t, "Mul", f.Mul(x, y), word.Of(a*b%m), m, a, b)
			}
			same(t, "Of", f.Of(word.Of(a)), word.Of(a%m), m, a)
			same(t, "Neg", f.Neg(word.Of(a)), word.Of((3*m-a)%m), m, a)
		}
	}
}

// What comes out of products and sums goes in again.
func TestP7_1ManyTimes(t *testing.T) {
	d := draw(6)
	for _, m := range append(curves(), ofLength(d, 3), ofLength(d, 64), ofLength(d, 130), ofLength(d, 256)) {
		f, by := of(t, m), toBig(m)
		a, b := drawn(d, 256), drawn(d, 256)
		x, y := toBig(a), toBig(b)
		for range 3000 {
			a, b = f.Add(f.Mul(a, b), a), f.Sub(b, f.Mul(a, a))
			x, y = new(big.Int).Add(new(big.Int).Mul(x, y), x), new(big.Int).Sub(y, new(big.Int).Mul(x, x))
			x, y = x.Mod(x, by), y.Mod(y, by)
		}
		same(t, "sums and products", a, fromBig(x, by), m)
		same(t, "differences and squares", b, fromBig(y, by), m)
	}
}

// exponents are powers at the ends of parts and of hexadecimal digits, around m, and of any length.
func exponents(m api.Word) []api.Word {
	d := draw(7)
	one, all := word.Of(1), word.Not(api.Word{})
	out := []api.Word{{}, all, word.Sub(all, one), word.Sub(m, word.Of(2)), word.Sub(m, one), m, word.Add(m, one)}
	for n := range uint64(18) {
		out = append(out, word.Of(n))
	}
	for _, k := range []int{5, 8, 60, 63, 64, 65, 128, 192, 252, 253, 254, 255} {
		out = append(out, power(k), word.Sub(power(k), one))
	}
	for range 8 {
		out = append(out, drawn(d, 256), drawn(d, d.IntN(257)))
	}
	return out
}

func TestP7_1Exp(t *testing.T) {
	d := draw(8)
	all := moduli()
	for i := 0; i < len(all); i += 7 {
		m := all[i]
		f, by := of(t, m), toBig(m)
		l := numbers(d, m)
		for _, e := range exponents(m) {
			for range 3 {
				a := pick(d, l)
				want := new(big.Int).Exp(toBig(a), toBig(e), by)
				same(t, "Exp", f.Exp(a, e), fromBig(want, by), m, a, e)
			}
		}
	}
}

// The power is not taken modulo m, and the power 0 is 1.
func TestP7_1ExpExamples(t *testing.T) {
	seven := of(t, word.Of(7))
	for _, x := range []struct{ a, e, want uint64 }{
		{0, 0, 1}, {7, 0, 1}, {14, 0, 1}, {3, 0, 1}, {0, 1, 0}, {0, 7, 0}, {7, 5, 0}, {1, 1 << 40, 1},
		{3, 1, 3}, {3, 2, 2}, {3, 6, 1}, {3, 7, 3}, {3, 8, 2}, {10, 8, 2}, {3, 14, 2}, {6, 7, 6}, {6, 14, 1}, {2, 10, 2}, {2, 17, 4},
	} {
		same(t, "Exp modulo 7", seven.Exp(word.Of(x.a), word.Of(x.e)), word.Of(x.want), x.a, x.e)
	}
	for _, m := range moduli() {
		f := of(t, m)
		same(t, "Exp", f.Exp(m, api.Word{}), word.Of(1), m)
		same(t, "Exp", f.Exp(api.Word{}, api.Word{}), word.Of(1), m)
		same(t, "Exp", f.Exp(api.Word{}, m), api.Word{}, m)
		same(t, "Exp", f.Exp(word.Sub(m, word.Of(1)), word.Not(api.Word{})), word.Sub(m, word.Of(1)), m)
	}
}

// What was asked ahead, of this field or of another one, plays no part.
func TestP7_1NothingKept(t *testing.T) {
	d := draw(9)
	for range 300 {
		m, n := ofLength(d, 2+d.IntN(255)), ofLength(d, 2+d.IntN(255))
		a, b := drawn(d, 256), drawn(d, 256)
		f := of(t, m)
		product, power := f.Mul(a, b), f.Exp(a, b)
		other := of(t, n)
		other.Exp(b, a)
		f.Inv(b)
		f.Sqrt(a)
		same(t, "Mul again", f.Mul(a, b), product, m, a, b)
		same(t, "Exp again", f.Exp(a, b), power, m, a, b)
		same(t, "Mul of one made anew", of(t, m).Mul(a, b), product, m, a, b)
	}
}

// What the zero value tells is open, but it ends, and does not panic.
func TestP7_1ZeroValue(t *testing.T) {
	var f field.Field
	for _, a := range []api.Word{{}, word.Of(1), word.Of(6), word.Not(api.Word{})} {
		for _, b := range []api.Word{{}, word.Of(1), word.Not(api.Word{})} {
			f.Add(a, b)
			f.Sub(a, b)
			f.Mul(a, b)
			f.Exp(a, b)
		}
		f.Of(a)
		f.Neg(a)
		f.Inv(a)
		f.Sqrt(a)
	}
	f.Modulus()
}

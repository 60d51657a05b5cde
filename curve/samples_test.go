package curve_test

import (
	"math/big"
	"math/rand/v2"
	"testing"

	"bailiwick/api"
	"bailiwick/curve"
	"bailiwick/word"
)

// draw makes numbers that look like any, and are the same ones in each run.
func draw(seed uint64) *rand.Rand {
	return rand.New(rand.NewPCG(seed, 8))
}

// drawn is any word.
func drawn(d *rand.Rand) api.Word {
	return api.Word{d.Uint64(), d.Uint64(), d.Uint64(), d.Uint64()}
}

// same holds got against want, and tells of what they are.
func same[T comparable](t *testing.T, what string, got, want T, of ...any) {
	t.Helper()
	if got != want {
		t.Fatalf("%s of %v: got %v, want %v", what, of, got, want)
	}
}

// number is the number of some hexadecimal digits.
func number(text string) *big.Int {
	x, ok := new(big.Int).SetString(text, 16)
	if !ok {
		panic(text + " are no hexadecimal digits")
	}
	return x
}

// hex is the word of some hexadecimal digits.
func hex(text string) api.Word {
	return fromBig(number(text))
}

func fromBig(x *big.Int) api.Word {
	return word.From(x.Bytes())
}

func toBig(a api.Word) *big.Int {
	b := word.Bytes(a)
	return new(big.Int).SetBytes(b[:])
}

// prime is what the curve is reckoned modulo: 2^256 - 2^32 - 977.
func prime() *big.Int {
	p := new(big.Int).Lsh(big.NewInt(1), 256)
	p.Sub(p, new(big.Int).Lsh(big.NewInt(1), 32))
	return p.Sub(p, big.NewInt(977))
}

// order is how many points there are.
func order() *big.Int {
	return number("fffffffffffffffffffffffffffffffebaaedce6af48a03bbfd25e8cd0364141")
}

// none is None as it is answered.
func none() api.Point {
	return api.Point{None: true}
}

// nones are None, with any X and Y.
func nones() []api.Point {
	out := []api.Point{none(), {X: word.Of(1), Y: word.Of(2), None: true}, {X: word.Not(api.Word{}), Y: word.Not(api.Word{}), None: true}}
	base := curve.Base()
	base.None = true
	return append(out, base)
}

// at is the point of some hexadecimal digits.
func at(x, y string) api.Point {
	return api.Point{X: hex(x), Y: hex(y)}
}

// smallX is a point whose X is so small that X and p is a word, too: 1; smallY one whose Y is.
func smallX() api.Point {
	return at("1", "4218f20ae6c646b363db68605822fb14264ca8d2587fdd6fbc750d587e76a7ee")
}

func smallY() api.Point {
	return at("1fe1e5ef3fceb5c135ab7741333ce5a6e80d68167653f6b2b24bcbcfaaaff507", "1")
}

// some are points that are drawn, and some of which there is something to say.
func some(d *rand.Rand, count int) []api.Point {
	out := []api.Point{none(), curve.Base(), smallX(), smallY()}
	for len(out) < count {
		p, e := curve.Lift(drawn(d), d.IntN(2) == 0)
		if e == api.OK {
			out = append(out, p)
		}
	}
	return out
}

// pick is one of l.
func pick[T any](d *rand.Rand, l []T) T {
	return l[d.IntN(len(l))]
}

// edges are numbers at the ends: of words, of the order, of p.
func edges() []api.Word {
	one := word.Of(1)
	all := word.Not(api.Word{})
	out := []api.Word{{}, one, word.Of(2), word.Of(3), word.Of(4), word.Of(5), word.Of(6), word.Of(7), word.Sub(all, one), all}
	for _, x := range []*big.Int{order(), prime(), new(big.Int).Rsh(order(), 1)} {
		a := fromBig(x)
		out = append(out, word.Sub(a, one), a, word.Add(a, one), word.Add(a, word.Of(2)))
	}
	for _, k := range []uint64{63, 64, 65, 127, 128, 191, 192, 254, 255} {
		a := word.Shl(word.Of(k), one)
		out = append(out, a, word.Sub(a, one), word.Not(a))
	}
	threes := api.Word{0x3333333333333333, 0x3333333333333333, 0x3333333333333333, 0x3333333333333333}
	fives := api.Word{0x5555555555555555, 0x5555555555555555, 0x5555555555555555, 0x5555555555555555}
	return append(out, threes, word.Not(threes), fives, word.Not(fives))
}

// numbers are the edges, and some numbers that are drawn.
func numbers(d *rand.Rand, count int) []api.Word {
	out := edges()
	for range count {
		out = append(out, drawn(d))
	}
	return out
}

// strangers are points that are not on the curve.
func strangers() []api.Point {
	p := fromBig(prime())
	base, x, y := curve.Base(), smallX(), smallY()
	out := []api.Point{
		{}, {X: word.Of(1)}, {Y: word.Of(1)}, {X: word.Of(1), Y: word.Of(1)}, {X: base.X}, {Y: base.Y}, {X: base.Y, Y: base.X},
		{X: base.X, Y: x.Y}, {X: x.X, Y: base.Y}, {X: p, Y: base.Y}, {X: base.X, Y: p}, {X: p, Y: p},
		{X: word.Add(x.X, p), Y: x.Y}, {X: word.Add(x.X, p), Y: word.Sub(p, x.Y)}, {X: y.X, Y: word.Add(y.Y, p)},
		{X: base.X, Y: word.Sub(api.Word{}, base.Y)}, {X: word.Not(api.Word{}), Y: word.Not(api.Word{})},
	}
	for k := range uint64(256) {
		bit := word.Shl(word.Of(k), word.Of(1))
		out = append(out, api.Point{X: flipped(base.X, bit), Y: base.Y}, api.Point{X: base.X, Y: flipped(base.Y, bit)})
	}
	return out
}

// flipped is a with one bit the other way.
func flipped(a, bit api.Word) api.Word {
	for i := range a {
		a[i] ^= bit[i]
	}
	return a
}

package sign_test

import (
	"math/big"
	"math/rand/v2"
	"testing"

	"bailiwick/api"
	"bailiwick/curve"
	"bailiwick/sign"
	"bailiwick/word"
)

// draw makes numbers that look like any, and are the same ones in each run.
func draw(seed uint64) *rand.Rand {
	return rand.New(rand.NewPCG(seed, 9))
}

// drawn is any word.
func drawn(d *rand.Rand) api.Word {
	return api.Word{d.Uint64(), d.Uint64(), d.Uint64(), d.Uint64()}
}

// below is any number from 1 to the order less 1.
func below(d *rand.Rand) api.Word {
	for {
		a := drawn(d)
		if toBig(a).Cmp(order()) < 0 {
			return a
		}
	}
}

// pick is one of l.
func pick[T any](d *rand.Rand, l []T) T {
	return l[d.IntN(len(l))]
}

// same holds got against want, and tells of what they are.
func same[T comparable](t *testing.T, what string, got, want T, of ...any) {
	t.Helper()
	if got != want {
		t.Fatalf("%s of %v: got %v, want %v", what, of, got, want)
	}
}

// number is the number of some hexadecimal digits.
func number(text string) *big.Int {
	x, ok := new(big.Int).SetString(text, 16)
	if !ok {
		panic(text + " are no hexadecimal digits")
	}
	return x
}

// hex is the word of some hexadecimal digits, hash their hash, address their address.
func hex(text string) api.Word {
	return fromBig(number(text))
}

func hash(text string) api.Hash {
	return api.Hash(word.Bytes(hex(text)))
}

func address(text string) api.Address {
	var out api.Address
	number(text).FillBytes(out[:])
	return out
}

func fromBig(x *big.Int) api.Word {
	return word.From(x.Bytes())
}

func toBig(a api.Word) *big.Int {
	b := word.Bytes(a)
	return new(big.Int).SetBytes(b[:])
}

// order is how many points there are.
func order() *big.Int {
	return number("fffffffffffffffffffffffffffffffebaaedce6af48a03bbfd25e8cd0364141")
}

// prime is what the curve is reckoned modulo.
func prime() *big.Int {
	return number("fffffffffffffffffffffffffffffffffffffffffffffffffffffffefffffc2f")
}

// beside is the order and some more.
func beside(more int64) api.Word {
	return fromBig(new(big.Int).Add(order(), big.NewInt(more)))
}

// half is the order by 2, without a fraction.
func half() api.Word {
	return hex("7fffffffffffffffffffffffffffffff5d576e7357a4501ddfe92f46681b20a0")
}

// inner are numbers from 1 to the order less 1 of which there is something to say.
func inner() []api.Word {
	out := []api.Word{word.Of(1), word.Of(2), word.Of(3), beside(-1), beside(-2), beside(-3), half(), word.Add(half(), word.Of(1))}
	for k := uint64(63); k < 256; k += 32 {
		out = append(out, word.Shl(word.Of(k), word.Of(1)))
	}
	return out
}

// outer are numbers that are not from 1 to the order less 1.
func outer() []api.Word {
	out := []api.Word{{}, beside(0), beside(1), beside(2), fromBig(prime()), word.Add(fromBig(prime()), word.Of(1)), word.Not(api.Word{}), word.Not(word.Of(1))}
	for k := range uint64(128) {
		out = append(out, word.Not(word.Shl(word.Of(k), word.Of(1))))
	}
	return out
}

// keys are keys that are drawn, behind those of which there is something to say.
func keys(d *rand.Rand, count int) []api.Word {
	out := inner()
	for range count {
		out = append(out, below(d))
	}
	return out
}

// hashes are hashes that are drawn, behind those at the ends, and around the order.
func hashes(d *rand.Rand, count int) []api.Hash {
	all := append(inner(), outer()[:8]...)
	for range count {
		all = append(all, drawn(d))
	}
	var out []api.Hash
	for _, a := range all {
		out = append(out, api.Hash(word.Bytes(a)))
	}
	return out
}

// none is None as it is answered.
func none() api.Point {
	return api.Point{None: true}
}

// nones are None, with any X and Y.
func nones() []api.Point {
	base := curve.Base()
	base.None = true
	return []api.Point{none(), {X: word.Of(1), Y: word.Of(2), None: true}, base}
}

// strangers are points that are not on the curve.
func strangers() []api.Point {
	base, p := curve.Base(), fromBig(prime())
	return []api.Point{
		{}, {X: word.Of(1)}, {Y: word.Of(1)}, {X: word.Of(1), Y: word.Of(1)}, {X: base.Y, Y: base.X}, {X: base.X}, {Y: base.Y},
		{X: base.X, Y: word.Add(base.Y, word.Of(1))}, {X: word.Add(base.X, word.Of(1)), Y: base.Y}, {X: p, Y: p},
		{X: word.Add(smallX().X, p), Y: smallX().Y}, {X: word.Not(api.Word{}), Y: word.Not(api.Word{})},
	}
}

// smallX is the point of X 1 whose Y is even.
func smallX() api.Point {
	return api.Point{X: word.Of(1), Y: hex("4218f20ae6c646b363db68605822fb14264ca8d2587fdd6fbc750d587e76a7ee")}
}

// points are points that are drawn, ahead of them the base and one of a small X.
func points(d *rand.Rand, count int) []api.Point {
	out := []api.Point{curve.Base(), smallX()}
	for len(out) < count {
		p, e := curve.Lift(drawn(d), d.IntN(2) == 0)
		if e == api.OK {
			out = append(out, p)
		}
	}
	return out
}

// public and signed are what the calls answer for keys that are allowed.
func public(t *testing.T, key api.Word) api.Point {
	t.Helper()
	p, e := sign.Public(key)
	same(t, "Public's error", e, api.OK, key)
	return p
}

func signed(t *testing.T, key api.Word, h api.Hash) api.Sig {
	t.Helper()
	s, e := sign.Sign(key, h)
	same(t, "Sign's error", e, api.OK, key, h)
	return s
}

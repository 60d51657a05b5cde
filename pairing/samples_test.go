package pairing_test

import (
	"math/big"
	"math/rand/v2"
	"strings"
	"testing"

	"bailiwick/api"
	"bailiwick/pairing"
	"bailiwick/tower"
	"bailiwick/word"
)

// draw makes numbers that look like any, and are the same ones in each run.
func draw(seed uint64) *rand.Rand {
	return rand.New(rand.NewPCG(seed, 11))
}

// drawn is any word.
func drawn(d *rand.Rand) api.Word {
	return api.Word{d.Uint64(), d.Uint64(), d.Uint64(), d.Uint64()}
}

// same holds got against want, and tells of what they are.
func same[T comparable](t *testing.T, what string, got, want T, of ...any) {
	t.Helper()
	if got != want {
		t.Fatalf("%s of %v: got %v, want %v", what, of, got, want)
	}
}

// pick is one of l.
func pick[T any](d *rand.Rand, l []T) T {
	return l[d.IntN(len(l))]
}

// words are the hexadecimal numbers of a text.
func words(text string) []api.Word {
	var out []api.Word
	for _, digits := range strings.Fields(text) {
		x, ok := new(big.Int).SetString(digits, 16)
		if !ok {
			panic(digits + " are no hexadecimal digits")
		}
		out = append(out, fromBig(x))
	}
	return out
}

func decimal(digits string) *big.Int {
	x, ok := new(big.Int).SetString(digits, 10)
	if !ok {
		panic(digits + " are no decimal digits")
	}
	return x
}

// prime is what all parts are taken modulo; order is how many points a group has.
func prime() *big.Int {
	return decimal("21888242871839275222246405745257275088696311157297823662689037894645226208583")
}

func order() *big.Int {
	return decimal("21888242871839275222246405745257275088548364400416034343698204186575808495617")
}

func fromBig(x *big.Int) api.Word {
	return word.From(x.Bytes())
}

func toBig(a api.Word) *big.Int {
	b := word.Bytes(a)
	return new(big.Int).SetBytes(b[:])
}

// toNat is x in its parts.
func toNat(x *big.Int) api.Nat {
	var out api.Nat
	for rest := new(big.Int).Set(x); rest.Sign() > 0; rest.Rsh(rest, 32) {
		out = append(out, uint32(rest.Uint64()))
	}
	return out
}

// below is a number below p.
func below(d *rand.Rand) api.Word {
	return fromBig(new(big.Int).Mod(toBig(drawn(d)), prime()))
}

// numbers are those at the ends of words, of the order and of p, and some that are drawn.
func numbers(d *rand.Rand, count int) []api.Word {
	one, all := word.Of(1), word.Not(api.Word{})
	out := []api.Word{{}, one, word.Of(2), word.Of(3), word.Of(4), word.Of(5), word.Sub(all, one), all}
	for _, x := range []*big.Int{order(), prime(), new(big.Int).Lsh(order(), 1)} {
		a := fromBig(x)
		out = append(out, word.Sub(a, one), a, word.Add(a, one))
	}
	for _, k := range []uint64{63, 64, 128, 192, 255} {
		a := word.Shl(word.Of(k), one)
		out = append(out, a, word.Sub(a, one))
	}
	for range count {
		out = append(out, drawn(d))
	}
	return out
}

// none and noTwist are None as it is answered.
func none() api.Point {
	return api.Point{None: true}
}

func noTwist() api.Twist {
	return api.Twist{None: true}
}

// nones are None, with any X and Y.
func nones() []api.Point {
	base, _ := pairing.Base()
	base.None = true
	all := word.Not(api.Word{})
	return []api.Point{none(), base, {X: word.Of(1), Y: word.Of(1), None: true}, {X: all, Y: all, None: true}}
}

func noTwists() []api.Twist {
	_, base := pairing.Base()
	base.None = true
	all := word.Not(api.Word{})
	full := api.F2{all, all}
	return []api.Twist{noTwist(), base, {X: api.F2{word.Of(1)}, None: true}, {X: full, Y: full, None: true}}
}

// lifted is a point of the curve of which just an X was drawn.
func lifted(d *rand.Rand) api.Point {
	for {
		x := toBig(below(d))
		square := new(big.Int).Exp(x, big.NewInt(3), prime())
		square.Add(square, big.NewInt(3))
		y := new(big.Int).ModSqrt(square.Mod(square, prime()), prime())
		if y != nil {
			return api.Point{X: fromBig(x), Y: fromBig(y)}
		}
	}
}

// level are the points of which Y is 1.
func level() []api.Point {
	var out []api.Point
	for _, x := range words("ab8dee8546c1bab6b2a46f8cf57a1a26190e96e1c525b0f7b53f1db7b9e90b9 1a181f011501d4ad0ba01821a40467e98008600bfb2fc58e82852b7eaa5bb30 2409ed9a7b7567337c6bfd3b97e9703c9deffb228c6c7324d8a447837238b15e") {
		out = append(out, api.Point{X: x, Y: word.Of(1)})
	}
	return out
}

// points are None, the base, one of which Y is 1, and some that are drawn.
func points(d *rand.Rand, count int) []api.Point {
	base, _ := pairing.Base()
	out := []api.Point{none(), base, level()[0]}
	for range count {
		out = append(out, lifted(d))
	}
	return out
}

// stray is a point of the twist of which just an X was drawn: hardly ever one of the group.
func stray(d *rand.Rand) api.Twist {
	for {
		x := api.F2{below(d), below(d)}
		y, found := root(toldRise(x))
		if found {
			return api.Twist{X: x, Y: y}
		}
	}
}

// root is what times itself is a, and whether there is such a number.
func root(a api.F2) (api.F2, bool) {
	p := prime()
	real, other := toBig(a[0]), toBig(a[1])
	length := new(big.Int).Add(new(big.Int).Mul(real, real), new(big.Int).Mul(other, other))
	if length.ModSqrt(length.Mod(length, p), p) == nil {
		return api.F2{}, false
	}
	half := new(big.Int).ModInverse(big.NewInt(2), p)
	for _, square := range []*big.Int{new(big.Int).Add(real, length), new(big.Int).Sub(real, length)} {
		square.Mul(square, half)
		x := new(big.Int).ModSqrt(square.Mod(square, p), p)
		if x == nil || x.Sign() == 0 {
			continue
		}
		y := new(big.Int).ModInverse(x, p)
		y.Mul(y.Mul(y, half), other)
		return api.F2{fromBig(x), fromBig(y.Mod(y, p))}, true
	}
	return api.F2{}, false
}

// twists are None, the base, and some that are drawn: so many times the base.
func twists(d *rand.Rand, count int) []api.Twist {
	_, base := pairing.Base()
	out := []api.Twist{noTwist(), base}
	for range count {
		out = append(out, toldTimes(toBig(drawn(d)), base))
	}
	return out
}

// turned is the point of the other Y.
func turned(p api.Point) api.Point {
	return narrow(turnedTwist(wide(p)))
}

func turnedTwist(q api.Twist) api.Twist {
	if q.None {
		return noTwist()
	}
	return api.Twist{X: q.X, Y: tower.Sub2(api.F2{}, q.Y)}
}

// flipped is a with one bit the other way.
func flipped(a api.Word, k int) api.Word {
	a[k/64] ^= 1 << (k % 64)
	return a
}

// strangers are points that are not on the curve.
func strangers(d *rand.Rand) []api.Point {
	p, all := fromBig(prime()), word.Not(api.Word{})
	out := []api.Point{{}, {X: word.Of(1)}, {Y: word.Of(2)}, {X: word.Of(2), Y: word.Of(1)}, {X: p, Y: p}, {X: all, Y: all}, {X: p, Y: word.Of(2)}, {X: word.Of(1), Y: p}}
	for _, a := range points(d, 3)[1:] {
		out = append(out, api.Point{X: a.X}, api.Point{Y: a.Y}, api.Point{X: a.Y, Y: a.X})
		for _, k := range []int{0, 1, 63, 64, 127, 128, 191, 192, 253, 254, 255} {
			out = append(out, api.Point{X: flipped(a.X, k), Y: a.Y}, api.Point{X: a.X, Y: flipped(a.Y, k)})
		}
		x, y := word.Add(a.X, p), word.Add(a.Y, p)
		for range 4 {
			out = append(out, api.Point{X: x, Y: a.Y}, api.Point{X: a.X, Y: y}, api.Point{X: x, Y: y}, api.Point{X: x, Y: turned(a).Y})
			x, y = word.Add(x, p), word.Add(y, p)
		}
	}
	return out
}

// strangeTwists are points that are not on the twist, and points of it that are not of the group.
func strangeTwists(d *rand.Rand) []api.Twist {
	p, all := fromBig(prime()), word.Not(api.Word{})
	base, _ := pairing.Base()
	out := []api.Twist{{}, {X: api.F2{p, p}, Y: api.F2{p, p}}, {X: api.F2{all, all}, Y: api.F2{all, all}}, wide(base), stray(d), turnedTwist(stray(d))}
	for _, q := range twists(d, 1)[1:] {
		out = append(out, api.Twist{X: q.X}, api.Twist{Y: q.Y}, api.Twist{X: q.Y, Y: q.X}, toldSum(q, stray(d)))
		for i := range 2 {
			x, y, both := q, q, q
			x.X[i], y.Y[i], both.X[i], both.Y[i] = word.Add(q.X[i], p), word.Add(q.Y[i], p), word.Add(q.X[i], p), word.Add(q.Y[i], p)
			out = append(out, x, y, both)
			for _, k := range []int{0, 64, 128, 192, 253, 255} {
				x.X[i], y.Y[i] = flipped(q.X[i], k), flipped(q.Y[i], k)
				out = append(out, x, y)
			}
			x.X[i], y.Y[i] = api.Word{}, api.Word{}
			out = append(out, x, y)
		}
		out = append(out, api.Twist{X: api.F2{q.X[1], q.X[0]}, Y: q.Y}, api.Twist{X: q.X, Y: api.F2{q.Y[1], q.Y[0]}}, api.Twist{X: tower.Conj2(q.X), Y: tower.Conj2(q.Y)})
	}
	return out
}

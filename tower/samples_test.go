package tower_test

import (
	"math/big"
	"math/rand/v2"
	"testing"

	"bailiwick/api"
	"bailiwick/word"
)

// draw makes numbers that look like any, and are the same ones in each run.
func draw(seed uint64) *rand.Rand {
	return rand.New(rand.NewPCG(seed, 10))
}

// same holds got against want, and tells of what they are.
func same[T comparable](t *testing.T, what string, got, want T, of ...any) {
	t.Helper()
	if got != want {
		t.Fatalf("%s of %v: got %v, want %v", what, of, got, want)
	}
}

func fromBig(x *big.Int) api.Word {
	return word.From(x.Bytes())
}

func toBig(a api.Word) *big.Int {
	b := word.Bytes(a)
	return new(big.Int).SetBytes(b[:])
}

// toNat is x in its parts.
func toNat(x *big.Int) api.Nat {
	var out api.Nat
	for rest := new(big.Int).Set(x); rest.Sign() > 0; rest.Rsh(rest, 32) {
		out = append(out, uint32(rest.Uint64()))
	}
	return out
}

// natToBig is the number of a's parts.
func natToBig(a api.Nat) *big.Int {
	out := new(big.Int)
	for i := len(a) - 1; i >= 0; i-- {
		out.Lsh(out, 32)
		out.Add(out, big.NewInt(int64(a[i])))
	}
	return out
}

// prime is what all parts are taken modulo.
func prime() *big.Int {
	p, _ := new(big.Int).SetString("21888242871839275222246405745257275088696311157297823662689037894645226208583", 10)
	return p
}

// pick is one of l.
func pick[T any](d *rand.Rand, l []T) T {
	return l[d.IntN(len(l))]
}

// edges are parts at the ends: of words, of p and what is so many times p.
func edges() []api.Word {
	one := word.Of(1)
	all := word.Not(api.Word{})
	out := []api.Word{{}, one, word.Of(2), word.Of(9), {0, 1}, {0, 0, 0, 1}, word.Sub(all, one), all}
	for times := range uint64(5) {
		a := word.Mul(word.Of(times+1), fromBig(prime()))
		out = append(out, word.Sub(a, one), a, word.Add(a, one))
	}
	return out
}

// part is a part of any size, or below p, or at an end.
func part(d *rand.Rand) api.Word {
	a := api.Word{d.Uint64(), d.Uint64(), d.Uint64(), d.Uint64()}
	switch d.IntN(4) {
	case 0:
		return pick(d, edges())
	case 1:
		return a
	default:
		return fromBig(new(big.Int).Mod(toBig(a), prime()))
	}
}

func drawn2(d *rand.Rand) api.F2 {
	return api.F2{part(d), part(d)}
}

func drawn12(d *rand.Rand) api.F12 {
	var out api.F12
	for k := range out {
		out[k] = drawn2(d)
	}
	return out
}

// numbers2 are all pairs of some ends, and some numbers that are drawn.
func numbers2(d *rand.Rand, count int) []api.F2 {
	p := fromBig(prime())
	ends := []api.Word{{}, word.Of(1), word.Of(9), word.Sub(p, word.Of(1)), p, word.Add(p, word.Of(1)), word.Mul(word.Of(5), p), word.Not(api.Word{})}
	var out []api.F2
	for _, x := range ends {
		for _, y := range ends {
			out = append(out, api.F2{x, y})
		}
	}
	for range count {
		out = append(out, drawn2(d))
	}
	return out
}

// at is the number of just one part, at w to the power k.
func at(k int, a api.F2) api.F12 {
	var out api.F12
	out[k] = a
	return out
}

// numbers12 are 0 and 1, numbers of one part or a few, with all parts at an end, and some numbers that are drawn.
func numbers12(d *rand.Rand, count int) []api.F12 {
	p, all := fromBig(prime()), word.Not(api.Word{})
	out := []api.F12{{}, at(0, api.F2{word.Of(1)}), at(0, api.F2{p, p}), at(0, api.F2{word.Add(p, word.Of(1)), p})}
	for k := range 6 {
		out = append(out, at(k, api.F2{word.Of(1)}), at(k, api.F2{{}, word.Of(1)}), at(k, drawn2(d)))
	}
	for _, x := range []api.Word{p, word.Sub(p, word.Of(1)), all} {
		var a api.F12
		for k := range a {
			a[k] = api.F2{x, x}
		}
		out = append(out, a)
	}
	for range count {
		few := drawn12(d)
		for k := range few {
			if d.IntN(2) == 0 {
				few[k] = api.F2{}
			}
		}
		out = append(out, few, drawn12(d))
	}
	return out
}

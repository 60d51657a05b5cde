package field_test

import (
	"math"
	"math/big"
	"math/rand/v2"
	"testing"

	"bailiwick/api"
	"bailiwick/field"
	"bailiwick/word"
)

// draw makes numbers that look like any, and are the same ones in each run.
func draw(seed uint64) *rand.Rand {
	return rand.New(rand.NewPCG(seed, 7))
}

// drawn is a word of at most so many bits.
func drawn(d *rand.Rand, most int) api.Word {
	a := api.Word{d.Uint64(), d.Uint64(), d.Uint64(), d.Uint64()}
	return word.Shr(word.Of(uint64(256-most)), a)
}

// power is 2 to the power k, which is below 256.
func power(k int) api.Word {
	return word.Shl(word.Of(uint64(k)), word.Of(1))
}

// ofLength is an odd word of just so many bits.
func ofLength(d *rand.Rand, length int) api.Word {
	a := drawn(d, length)
	highest := power(length - 1)
	if word.Cmp(a, highest) < 0 {
		a = word.Add(a, highest)
	}
	a[0] |= 1
	return a
}

// edges are odd words, 3 or more, whose parts are each at the end of what a part can be.
func edges() []api.Word {
	ends := []uint64{0, 1, 1 << 63, math.MaxUint64}
	odd := []uint64{1, 3, 1<<63 + 1, math.MaxUint64}
	var out []api.Word
	for i := range 256 {
		a := api.Word{odd[i&3], ends[i>>2&3], ends[i>>4&3], ends[i>>6]}
		if a != word.Of(1) {
			out = append(out, a)
		}
	}
	return out
}

// curves are what the curves' fields reckon modulo, as the chapter tells it.
func curves() []api.Word {
	var out []api.Word
	for _, text := range []string{
		"115792089237316195423570985008687907853269984665640564039457584007908834671663",
		"115792089237316195423570985008687907852837564279074904382605163141518161494337",
		"21888242871839275222246405745257275088696311157297823662689037894645226208583",
	} {
		m, _ := word.Parse(text)
		out = append(out, m)
	}
	return out
}

// moduli are numbers of each size that a field can reckon modulo.
func moduli() []api.Word {
	d := draw(1)
	out := append(curves(), edges()...)
	for n := range uint64(40) {
		out = append(out, word.Of(2*n+3))
	}
	for length := 2; length <= 256; length++ {
		highest := power(length - 1)
		ones := word.Add(highest, word.Sub(highest, word.Of(1)))
		out = append(out, ofLength(d, length), word.Add(highest, word.Of(1)), ones)
	}
	return out
}

// primes are prime numbers, of the lengths that are told by a step, that have some rest by 4.
func primes(step int, rest uint64) []api.Word {
	d := draw(2)
	var out []api.Word
	for length := 3; length <= 256; length += step {
		m := ofLength(d, length)
		for m[0]%4 != rest || !toBig(m).ProbablyPrime(20) {
			m = ofLength(d, length)
		}
		out = append(out, m)
	}
	return out
}

// smallPrimes are the odd ones below 100.
func smallPrimes() []uint64 {
	return []uint64{3, 5, 7, 11, 13, 17, 19, 23, 29, 31, 37, 41, 43, 47, 53, 59, 61, 67, 71, 73, 79, 83, 89, 97}
}

// numbers are words around the ends of what m leaves as they are, and some of any length.
func numbers(d *rand.Rand, m api.Word) []api.Word {
	one, all := word.Of(1), word.Not(api.Word{})
	most := word.Mul(word.Div(all, m), m)
	half := word.Shr(one, m)
	out := []api.Word{
		{}, one, word.Of(2), word.Sub(m, word.Of(2)), word.Sub(m, one), m, word.Add(m, one), half, word.Add(half, one),
		word.Sub(most, one), most, word.Add(most, one), word.Sub(all, one), all, {0, 1}, {0, 0, 1}, {0, 0, 0, 1}, {0, 0, 0, 1 << 63},
	}
	for range 6 {
		out = append(out, drawn(d, d.IntN(257)))
	}
	return append(out, drawn(d, 256), drawn(d, 256), drawn(d, word.Len(m)), drawn(d, word.Len(m)))
}

// pick is one of l.
func pick(d *rand.Rand, l []api.Word) api.Word {
	return l[d.IntN(len(l))]
}

// of is the field modulo m.
func of(t *testing.T, m api.Word) *field.Field {
	t.Helper()
	f, e := field.New(m)
	if f == nil || e != api.OK {
		t.Fatalf("New(%v): got %v and %v", m, f, e)
	}
	return f
}

func toBig(a api.Word) *big.Int {
	b := word.Bytes(a)
	return new(big.Int).SetBytes(b[:])
}

// fromBig is x modulo m.
func fromBig(x, m *big.Int) api.Word {
	return word.From(new(big.Int).Mod(x, m).Bytes())
}

// fromHex is the number of some hexadecimal digits.
func fromHex(t *testing.T, text string) api.Word {
	t.Helper()
	x, ok := new(big.Int).SetString(text, 16)
	if !ok {
		t.Fatalf("%q are no hexadecimal digits", text)
	}
	return word.From(x.Bytes())
}

// same holds got against want, and tells of what they are.
func same[T comparable](t *testing.T, what string, got, want T, of ...any) {
	t.Helper()
	if got != want {
		t.Fatalf("%s of %v: got %v, want %v", what, of, got, want)
	}
}

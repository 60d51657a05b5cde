package word_test

import (
	"math"
	"math/big"
	"testing"

	"bailiwick/api"
	"bailiwick/word"
)

// stream makes numbers that look like any, and are the same ones in each run.
type stream uint64

func (s *stream) next() uint64 {
	*s += 0x9e3779b97f4a7c15
	x := uint64(*s)
	x = (x ^ x>>30) * 0xbf58476d1ce4e5b9
	x = (x ^ x>>27) * 0x94d049bb133111eb
	return x ^ x>>31
}

// pick is one of l.
func (s *stream) pick(l []api.Word) api.Word {
	return l[s.next()%uint64(len(l))]
}

// word is a word of any length.
func (s *stream) word() api.Word {
	a := api.Word{s.next(), s.next(), s.next(), s.next()}
	return word.Shr(word.Of(s.next()%257), a)
}

// edges are words whose parts are each at the end of what a part can be.
func edges() []api.Word {
	ends := []uint64{0, 1, 1 << 63, math.MaxUint64}
	var out []api.Word
	for i := range 256 {
		out = append(out, api.Word{ends[i&3], ends[i>>2&3], ends[i>>4&3], ends[i>>6]})
	}
	return out
}

// samples are edges, small numbers, some behind and below powers of two, and words of any length.
func samples() []api.Word {
	s := stream(1)
	var out []api.Word
	for n := range uint64(12) {
		out = append(out, word.Of(n), neg(n))
	}
	for i := 7; i < 256; i += 8 {
		power := fromBig(new(big.Int).Lsh(big.NewInt(1), uint(i)))
		out = append(out, power, word.Add(power, word.Of(1)), word.Sub(power, word.Of(1)), word.Sub(api.Word{}, power))
	}
	for range 100 {
		out = append(out, s.word())
	}
	return out
}

// all are edges and samples.
func all() []api.Word {
	return append(edges(), samples()...)
}

// huge are numbers that are too great for any shift or place, the lowest part of some of them being small.
func huge() []api.Word {
	return []api.Word{
		{math.MaxUint64}, {0, 1}, {1, 1}, {8, 1}, {0, 0, 1}, {3, 0, 1}, {0, 0, 0, 1}, {1, 0, 0, 1}, {30, 0, 0, 1 << 63},
		{math.MaxUint64, math.MaxUint64, math.MaxUint64, math.MaxUint64},
	}
}

func neg(n uint64) api.Word {
	return word.Sub(api.Word{}, word.Of(n))
}

// modulus is 2^256.
func modulus() *big.Int {
	return new(big.Int).Lsh(big.NewInt(1), 256)
}

func toBig(a api.Word) *big.Int {
	out := new(big.Int)
	for i := 3; i >= 0; i-- {
		out.Lsh(out, 64)
		out.Or(out, new(big.Int).SetUint64(a[i]))
	}
	return out
}

func toSigned(a api.Word) *big.Int {
	out := toBig(a)
	if out.Bit(255) == 1 {
		out.Sub(out, modulus())
	}
	return out
}

func fromBig(x *big.Int) api.Word {
	x = new(big.Int).Mod(x, modulus())
	part := new(big.Int).SetUint64(math.MaxUint64)
	var out api.Word
	for i := range out {
		out[i] = new(big.Int).And(x, part).Uint64()
		x.Rsh(x, 64)
	}
	return out
}

// same holds got against want, and tells of what they are.
func same[T comparable](t *testing.T, what string, got, want T, of ...any) {
	t.Helper()
	if got != want {
		t.Fatalf("%s of %v: got %v, want %v", what, of, got, want)
	}
}

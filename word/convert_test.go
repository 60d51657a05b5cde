package word_test

import (
	"math/big"
	"slices"
	"strings"
	"testing"

	"bailiwick/api"
	"bailiwick/word"
)

func TestP1_3Bytes(t *testing.T) {
	for _, a := range all() {
		same(t, "Bytes", word.Bytes(a), [32]byte(toBig(a).FillBytes(make([]byte, 32))), a)
	}
	bytes := word.Bytes(word.Of(0x0102))
	same(t, "Bytes", bytes[31], 2)
	same(t, "Bytes", bytes[30], 1)
	same(t, "Bytes", bytes[29], 0)
}

func TestP1_3From(t *testing.T) {
	s := stream(3)
	for n := range 100 {
		b := make([]byte, n)
		for i := range b {
			b[i] = byte(s.next())
		}
		kept := slices.Clone(b)
		want := fromBig(new(big.Int).SetBytes(b))
		same(t, "From", word.From(b), want, b)
		same(t, "From of what it was handed", slices.Equal(b, kept), true, b)
	}
	same(t, "From", word.From(nil), word.Of(0))
	same(t, "From", word.From([]byte{}), word.Of(0))
	same(t, "From", word.From([]byte{1, 0}), word.Of(256))
	same(t, "From", word.From(append([]byte{9}, make([]byte, 32)...)), word.Of(0))
}

func TestP1_3Small(t *testing.T) {
	for _, n := range []uint64{0, 1, 255, 1 << 32, 1 << 63, 1<<64 - 1} {
		same(t, "Of", word.Of(n), api.Word{n}, n)
		got, small := word.Small(word.Of(n))
		same(t, "Small", got, n)
		same(t, "Small", small, true, n)
	}
	for _, a := range []api.Word{{0, 1}, {5, 1}, {5, 0, 1}, {5, 0, 0, 1}, {0, 0, 0, 1 << 63}, neg(1)} {
		got, small := word.Small(a)
		same(t, "Small", got, 0, a)
		same(t, "Small", small, false, a)
	}
}

func TestP1_3Len(t *testing.T) {
	for _, a := range all() {
		same(t, "Len", word.Len(a), toBig(a).BitLen(), a)
	}
	same(t, "Len", word.Len(word.Of(0)), 0)
	same(t, "Len", word.Len(word.Of(255)), 8)
	same(t, "Len", word.Len(word.Of(256)), 9)
	same(t, "Len", word.Len(neg(1)), 256)
}

// greatest is 2^256 - 1, and beyond it 2^256.
const (
	greatest = "115792089237316195423570985008687907853269984665640564039457584007913129639935"
	beyond   = "115792089237316195423570985008687907853269984665640564039457584007913129639936"
)

// tens are the powers of ten, and the numbers below them.
func tens() []api.Word {
	var out []api.Word
	power := word.Of(1)
	for range 78 {
		out = append(out, power, word.Sub(power, word.Of(1)))
		power = word.Mul(power, word.Of(10))
	}
	return out
}

func TestP1_3Decimal(t *testing.T) {
	for _, a := range append(tens(), samples()...) {
		same(t, "Decimal", word.Decimal(a), toBig(a).String(), a)
	}
	same(t, "Decimal", word.Decimal(word.Of(0)), "0")
	same(t, "Decimal", word.Decimal(neg(1)), greatest)
}

func TestP1_3Parse(t *testing.T) {
	for _, a := range append(tens(), samples()...) {
		got, e := word.Parse(toBig(a).String())
		same(t, "Parse", got, a, a)
		same(t, "Parse", e, api.OK, a)
	}
	got, e := word.Parse(greatest)
	same(t, "Parse", got, neg(1))
	same(t, "Parse", e, api.OK)
}

func TestP1_3ParseRefuses(t *testing.T) {
	for _, x := range []struct {
		text string
		want api.Errno
	}{
		{"", api.ErrForm}, {"00", api.ErrForm}, {"01", api.ErrForm}, {"-1", api.ErrForm}, {"+1", api.ErrForm},
		{" 1", api.ErrForm}, {"1 ", api.ErrForm}, {"1\n", api.ErrForm}, {"1a", api.ErrForm}, {"0x1", api.ErrForm},
		{"a", api.ErrForm}, {"1_0", api.ErrForm}, {"1.0", api.ErrForm}, {"1e3", api.ErrForm}, {"/", api.ErrForm},
		{":", api.ErrForm}, {"1/", api.ErrForm}, {"1:", api.ErrForm}, {"\x00", api.ErrForm}, {"\xff1", api.ErrForm},
		{"\u0661", api.ErrForm}, {"\uff11", api.ErrForm},
		{beyond, api.ErrLong},
		{strings.Repeat("9", 78), api.ErrLong},
		{"2" + strings.Repeat("0", 77), api.ErrLong},
		{strings.Repeat("9", 79), api.ErrForm},
		{"1" + strings.Repeat("0", 78), api.ErrForm},
		{"0" + greatest, api.ErrForm},
		{"0" + strings.Repeat("1", 77), api.ErrForm},
		{strings.Repeat("9", 77) + "a", api.ErrForm},
		{strings.Repeat("0", 1000), api.ErrForm},
	} {
		got, e := word.Parse(x.text)
		same(t, "Parse", got, api.Word{}, x.text)
		same(t, "Parse", e, x.want, x.text)
	}
}

func TestP1_3ParseAroundTheEnd(t *testing.T) {
	for i := int64(-20); i <= 20; i++ {
		text := new(big.Int).Add(modulus(), big.NewInt(i)).String()
		got, e := word.Parse(text)
		if i < 0 {
			same(t, "Parse", got, neg(uint64(-i)), text)
			same(t, "Parse", e, api.OK, text)
		} else {
			same(t, "Parse", got, api.Word{}, text)
			same(t, "Parse", e, api.ErrLong, text)
		}
	}
}

func TestP1_6ThereAndBack(t *testing.T) {
	for _, a := range append(append(edges(), tens()...), samples()...) {
		b := word.Bytes(a)
		same(t, "From of Bytes", word.From(b[:]), a, a)
		got, e := word.Parse(word.Decimal(a))
		same(t, "Parse of Decimal", got, a, a)
		same(t, "Parse of Decimal", e, api.OK, a)
		same(t, "From of Bytes with more ahead", word.From(append([]byte{1, 2, 3}, b[:]...)), a, a)
	}
}

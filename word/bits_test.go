package word_test

import (
	"math/big"
	"testing"

	"bailiwick/api"
	"bailiwick/word"
)

func TestP1_2SignExtend(t *testing.T) {
	for _, a := range all() {
		for k := range 31 {
			some := new(big.Int).Mod(toBig(a), new(big.Int).Lsh(big.NewInt(1), uint(8*k+8)))
			if some.Bit(8*k+7) == 1 {
				some.Sub(some, new(big.Int).Lsh(big.NewInt(1), uint(8*k+8)))
			}
			same(t, "SignExtend", word.SignExtend(word.Of(uint64(k)), a), fromBig(some), k, a)
		}
		for _, k := range append(huge(), word.Of(31), word.Of(32), word.Of(255), word.Of(256)) {
			same(t, "SignExtend", word.SignExtend(k, a), a, k, a)
		}
	}
	same(t, "SignExtend", word.SignExtend(word.Of(0), word.Of(255)), neg(1))
	same(t, "SignExtend", word.SignExtend(word.Of(0), word.Of(0x17f)), word.Of(0x7f))
	same(t, "SignExtend", word.SignExtend(word.Of(1), word.Of(0x8000)), neg(0x8000))
}

func TestP1_2Cmp(t *testing.T) {
	for _, l := range [][]api.Word{edges(), samples()} {
		for _, a := range l {
			for _, b := range l {
				same(t, "Cmp", word.Cmp(a, b), toBig(a).Cmp(toBig(b)), a, b)
				same(t, "SCmp", word.SCmp(a, b), toSigned(a).Cmp(toSigned(b)), a, b)
			}
		}
	}
	same(t, "Cmp", word.Cmp(neg(1), word.Of(1)), 1)
	same(t, "SCmp", word.SCmp(neg(1), word.Of(1)), -1)
	same(t, "SCmp", word.SCmp(neg(2), neg(1)), -1)
}

func TestP1_2Not(t *testing.T) {
	for _, a := range all() {
		same(t, "Not", word.Not(a), fromBig(new(big.Int).Not(toBig(a))), a)
	}
	same(t, "Not", word.Not(word.Of(0)), neg(1))
}

func TestP1_2Byte(t *testing.T) {
	for _, a := range all() {
		bytes := toBig(a).FillBytes(make([]byte, 32))
		for k, b := range bytes {
			same(t, "Byte", word.Byte(word.Of(uint64(k)), a), word.Of(uint64(b)), k, a)
		}
		for _, k := range append(huge(), word.Of(32), word.Of(33), word.Of(256)) {
			same(t, "Byte", word.Byte(k, a), word.Of(0), k, a)
		}
	}
	same(t, "Byte", word.Byte(word.Of(31), word.Of(0x1234)), word.Of(0x34))
	same(t, "Byte", word.Byte(word.Of(0), neg(2)), word.Of(255))
}

func TestP1_2Shifts(t *testing.T) {
	for _, a := range samples() {
		for k := range uint(300) {
			by := word.Of(uint64(k))
			same(t, "Shl", word.Shl(by, a), fromBig(new(big.Int).Lsh(toBig(a), k)), k, a)
			same(t, "Shr", word.Shr(by, a), fromBig(new(big.Int).Rsh(toBig(a), k)), k, a)
			same(t, "Sar", word.Sar(by, a), fromBig(new(big.Int).Rsh(toSigned(a), k)), k, a)
		}
	}
}

func TestP1_2ShiftsBeyond(t *testing.T) {
	for _, a := range samples() {
		rest := word.Of(0)
		if toBig(a).Bit(255) == 1 {
			rest = neg(1)
		}
		for _, k := range append(huge(), word.Of(256), word.Of(257), word.Of(320), word.Of(1<<32)) {
			same(t, "Shl", word.Shl(k, a), word.Of(0), k, a)
			same(t, "Shr", word.Shr(k, a), word.Of(0), k, a)
			same(t, "Sar", word.Sar(k, a), rest, k, a)
		}
	}
	same(t, "Sar", word.Sar(word.Of(1), neg(7)), neg(4))
	same(t, "Sar", word.Sar(word.Of(255), neg(7)), neg(1))
	same(t, "Shr", word.Shr(word.Of(255), neg(7)), word.Of(1))
}

func TestP1_8TwoShifts(t *testing.T) {
	s := stream(8)
	for _, a := range samples() {
		for range 300 {
			j, k := word.Of(s.next()%280), word.Of(s.next()%280)
			both := word.Add(j, k)
			same(t, "Shl twice", word.Shl(j, word.Shl(k, a)), word.Shl(both, a), j, k, a)
			same(t, "Shr twice", word.Shr(j, word.Shr(k, a)), word.Shr(both, a), j, k, a)
			same(t, "Sar twice", word.Sar(j, word.Sar(k, a)), word.Sar(both, a), j, k, a)
		}
	}
}

func TestP1_8ShiftsArePowers(t *testing.T) {
	for _, a := range samples() {
		for k := range uint64(256) {
			power := word.Exp(word.Of(2), word.Of(k))
			same(t, "Shl", word.Shl(word.Of(k), a), word.Mul(a, power), k, a)
			same(t, "Shr", word.Shr(word.Of(k), a), word.Div(a, power), k, a)
		}
	}
}

func TestP1_9Bytes(t *testing.T) {
	for _, a := range all() {
		for k := range uint64(34) {
			once := word.SignExtend(word.Of(k), a)
			same(t, "SignExtend twice", word.SignExtend(word.Of(k), once), once, k, a)
		}
		var sum api.Word
		bytes := word.Bytes(a)
		for i, b := range bytes {
			same(t, "Byte", word.Byte(word.Of(uint64(i)), a), word.Of(uint64(b)), i, a)
			sum = word.Add(word.Mul(sum, word.Of(256)), word.Of(uint64(b)))
		}
		same(t, "the number of Bytes", sum, a, a)
		same(t, "a + Not(a)", word.Add(a, word.Not(a)), neg(1), a)
	}
}

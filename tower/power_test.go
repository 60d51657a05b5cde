package tower_test

import (
	"math"
	"math/big"
	"math/rand/v2"
	"slices"
	"testing"

	"bailiwick/api"
	"bailiwick/tower"
	"bailiwick/word"
)

func exp12(t *testing.T, a api.F12, e api.Nat) api.F12 {
	t.Helper()
	got, err := tower.Exp12(a, e)
	same(t, "Exp12's error", err, api.OK, a, e)
	return got
}

// ofParts is a number of just so many parts.
func ofParts(d *rand.Rand, count int) api.Nat {
	out := make(api.Nat, count)
	for i := range out {
		out[i] = d.Uint32()
	}
	out[count-1] |= 1 << d.IntN(32)
	return out
}

func TestP10_1ExpSmall(t *testing.T) {
	d := draw(12)
	for _, a := range append(numbers12(d, 2), drawn12(d)) {
		want := tell12(tower.One())
		for e := range uint32(40) {
			same(t, "Exp12", exp12(t, a, api.Nat{e}), plain12(want), a, e)
			want = toldMul12(want, tell12(a))
		}
	}
}

// Powers with few bits, with all bits, and at the ends of parts.
func TestP10_1ExpBits(t *testing.T) {
	d := draw(13)
	one := big.NewInt(1)
	for _, k := range []uint{4, 5, 7, 8, 31, 32, 33, 63, 64, 65, 96, 127, 128, 255, 256} {
		two := new(big.Int).Lsh(one, k)
		for _, e := range []*big.Int{two, new(big.Int).Sub(two, one), new(big.Int).Add(two, one)} {
			a := drawn12(d)
			same(t, "Exp12", exp12(t, a, toNat(e)), toldExp12(a, e), a, e)
		}
	}
}

func TestP10_1ExpParts(t *testing.T) {
	d := draw(14)
	for count := 1; count <= 12; count++ {
		for range 3 {
			a, e := drawn12(d), ofParts(d, count)
			same(t, "Exp12", exp12(t, a, e), toldExp12(a, natToBig(e)), a, e)
		}
	}
	for _, count := range []int{40, 128} {
		a, e := drawn12(d), ofParts(d, count)
		same(t, "Exp12", exp12(t, a, e), toldExp12(a, natToBig(e)), a, e)
	}
}

// The power 0 is 1, of 0, too; 0 to other powers is 0.
func TestP10_1ExpOfNought(t *testing.T) {
	p := fromBig(prime())
	nought := at(2, api.F2{p, p})
	for _, e := range []api.Nat{nil, {}, {0}, {0, 0, 0}, make(api.Nat, 5000)} {
		for _, a := range append(numbers12(draw(15), 2), api.F12{}, nought) {
			same(t, "the power 0", exp12(t, a, e), tower.One(), a, e)
		}
	}
	for _, e := range []api.Nat{{1}, {2}, {0, 1}, {16}, {0, 0, 1 << 31}} {
		same(t, "Exp12 of 0", exp12(t, api.F12{}, e), api.F12{}, e)
		same(t, "Exp12 of 0", exp12(t, nought, e), api.F12{}, e)
	}
	for _, a := range numbers12(draw(16), 4) {
		same(t, "the power 1", exp12(t, a, api.Nat{1}), reduced(a), a)
	}
}

// With noughts behind its highest part a power is the same.
func TestP10_1ExpBehindNoughts(t *testing.T) {
	d := draw(17)
	for _, noughts := range []int{1, 2, 125, 126, 127, 1000, 5000} {
		a, e := drawn12(d), ofParts(d, 2)
		long := append(slices.Clone(e), make(api.Nat, noughts)...)
		same(t, "Exp12 with noughts behind", exp12(t, a, long), exp12(t, a, e), a, e, noughts)
	}
	a, e := tower.One(), ofParts(d, 128)
	long := append(slices.Clone(e), make(api.Nat, 3)...)
	same(t, "Exp12 of One", exp12(t, a, long), tower.One(), e)
}

func TestP10_1ExpTooLong(t *testing.T) {
	d := draw(18)
	least := append(make(api.Nat, 128), 1)
	all := slices.Repeat(api.Nat{math.MaxUint32}, 129)
	for _, e := range []api.Nat{least, all, ofParts(d, 129), ofParts(d, 130), ofParts(d, 1024), ofParts(d, 1025), append(least, 0, 0), append(make(api.Nat, 4000), 1)} {
		for _, a := range []api.F12{{}, tower.One(), drawn12(d)} {
			got, err := tower.Exp12(a, e)
			same(t, "Exp12's error", err, api.ErrLong, a, e)
			same(t, "Exp12 beside an error", got, api.F12{}, a, e)
		}
	}
	for _, e := range []api.Nat{all[:128], append(make(api.Nat, 127), 1<<31), append(slices.Clone(all[:128]), 0)} {
		same(t, "Exp12 of One", exp12(t, tower.One(), e), tower.One(), e)
	}
}

// The power that is handed in stays as it is, its spare room included.
func TestP10_1ExpChangesNothing(t *testing.T) {
	d := draw(19)
	room := ofParts(d, 40)
	for _, end := range []int{0, 1, 3, 20} {
		before := slices.Clone(room)
		tower.Exp12(drawn12(d), room[:end])
		if !slices.Equal(room, before) {
			t.Fatalf("a power of %d parts was changed: %v, was %v", end, room, before)
		}
	}
}

func TestP10_1Power(t *testing.T) {
	p := prime()
	for _, a := range numbers12(draw(20), 10) {
		want := toldExp12(a, p)
		same(t, "Power", tower.Power(a), want, a)
		same(t, "Exp12 by p", exp12(t, a, toNat(p)), want, a)
	}
}

// w's powers become themselves times powers of 9 and i to the power (p less 1) by 6.
func TestP10_1PowerOfParts(t *testing.T) {
	sixth, rest := new(big.Int).DivMod(new(big.Int).Sub(prime(), big.NewInt(1)), big.NewInt(6), new(big.Int))
	same(t, "the rest by 6", rest.Sign(), 0)
	turn := toldExp12(at(0, api.F2{word.Of(9), word.Of(1)}), sixth)
	want := tell12(tower.One())
	for k := range 6 {
		same(t, "Power", tower.Power(at(k, api.F2{word.Of(1)})), at(k, plain2(want[0])), k)
		want = toldMul12(want, tell12(turn))
	}
}

package nat_test

import (
	"math"
	"math/big"
	"testing"

	"bailiwick/api"
	"bailiwick/nat"
)

// holdDivision holds quotient and rest against what they should be, noughts standing behind both numbers.
func holdDivision(t *testing.T, a, b api.Nat, noughts int) {
	t.Helper()
	quotient, rest, e := nat.DivMod(behind(a, noughts), behind(b, noughts/2))
	if len(b) == 0 {
		refused(t, "DivMod", quotient, e, api.ErrArg, a, b)
		refused(t, "DivMod", rest, e, api.ErrArg, a, b)
		return
	}
	wantQuotient, wantRest := new(big.Int).QuoRem(toBig(a), toBig(b), new(big.Int))
	is(t, "quotient", quotient, e, fromBig(wantQuotient), a, b)
	is(t, "rest", rest, e, fromBig(wantRest), a, b)
}

func TestP2_2DivMod(t *testing.T) {
	for _, l := range [][]api.Nat{ends(), samples()} {
		for i, a := range l {
			for j, b := range l {
				holdDivision(t, a, b, (i+j)%4)
			}
		}
	}
	s := stream(6)
	for range 20_000 {
		holdDivision(t, s.nat(9), s.nat(6), s.below(3))
	}
	for range 200 {
		holdDivision(t, s.nat(api.MaxNat), s.nat(api.MaxNat), s.below(3))
		holdDivision(t, s.parts(api.MaxNat), s.nat(9), 0)
	}
}

func TestP2_2DivModExamples(t *testing.T) {
	for _, x := range []struct{ a, b, quotient, rest api.Nat }{
		{nil, of(1), nil, nil}, {nil, full(1024), nil, nil}, {of(7), of(2), of(3), of(1)}, {of(6), of(2), of(3), nil},
		{of(2), of(7), nil, of(2)}, {of(7), of(7), of(1), nil}, {full(1024), of(1), full(1024), nil}, {full(1024), full(1024), of(1), nil},
		{less(full(1024), of(1)), full(1024), nil, less(full(1024), of(1))}, {full(1024), power(32767), of(1), less(full(1024), power(32767))},
		{full(2), full(1), api.Nat{1, 1}, nil}, {api.Nat{0, 0, 1}, full(1), api.Nat{1, 1}, of(1)},
		// The highest parts alone make these parts of the quotient look greater than they are.
		{api.Nat{0, 0, 0, 1 << 31}, api.Nat{1, 0, 1 << 31}, of(math.MaxUint32), api.Nat{1, math.MaxUint32, 1<<31 - 1}},
		{api.Nat{3, 0, 1 << 31}, api.Nat{1, 0, 1 << 29}, of(3), api.Nat{0, 0, 1 << 29}},
	} {
		quotient, rest, e := nat.DivMod(x.a, x.b)
		is(t, "quotient", quotient, e, x.quotient, x.a, x.b)
		is(t, "rest", rest, e, x.rest, x.a, x.b)
	}
}

func TestP2_2DivModBy0(t *testing.T) {
	for _, a := range []api.Nat{nil, of(1), full(api.MaxNat), make(api.Nat, 3)} {
		for _, b := range []api.Nat{nil, {}, {0}, make(api.Nat, 5000)} {
			quotient, rest, e := nat.DivMod(a, b)
			refused(t, "DivMod", quotient, e, api.ErrArg, len(a), len(b))
			refused(t, "DivMod", rest, e, api.ErrArg, len(a), len(b))
		}
	}
}

func TestP2_2ModExp(t *testing.T) {
	for _, x := range []struct{ a, e, m, want api.Nat }{
		{of(3), of(5), of(7), of(5)}, {of(3), nil, of(7), of(1)}, {nil, nil, of(7), of(1)}, {nil, nil, of(1), nil},
		{of(3), nil, of(1), nil}, {of(3), of(5), of(1), nil}, {nil, of(5), of(7), nil}, {of(7), of(1), of(7), nil},
		{of(10), of(1), of(7), of(3)}, {of(2), of(31), full(1), of(1 << 31)}, {of(2), of(32), full(1), of(1)},
		{of(2), of(100), of(1 << 20), nil}, {of(2), of(64), api.Nat{0, 0, 0, 1}, api.Nat{0, 0, 1}},
		{full(1024), of(2), full(1024), nil}, {less(full(1024), of(1)), of(2), full(1024), of(1)},
		{less(full(1024), of(1)), of(3), full(1024), less(full(1024), of(1))}, {full(1024), nil, full(1024), of(1)},
		{of(2), power(32767), of(3), of(1)}, {of(2), full(1024), of(3), of(2)}, {full(1024), full(1024), of(2), of(1)},
	} {
		got, e := nat.ModExp(x.a, x.e, x.m)
		is(t, "ModExp", got, e, x.want, x.a, x.e, x.m)
	}
	s := stream(7)
	for range 3000 {
		holdModExp(t, s.nat(6), s.nat(3), s.parts(1+s.below(5)), s.below(3))
	}
	for range 20 {
		holdModExp(t, s.nat(60), s.nat(40), s.parts(1+s.below(40)), s.below(3))
	}
	holdModExp(t, s.parts(api.MaxNat), s.parts(1), s.parts(api.MaxNat), 1)
}

// holdModExp holds a power against what it should be, noughts standing behind all.
func holdModExp(t *testing.T, a, e, m api.Nat, noughts int) {
	t.Helper()
	got, err := nat.ModExp(behind(a, noughts), behind(e, noughts/2), behind(m, noughts))
	is(t, "ModExp", got, err, fromBig(new(big.Int).Exp(toBig(a), toBig(e), toBig(m))), a, e, m)
}

func TestP2_2ModExpModulo0(t *testing.T) {
	for _, a := range []api.Nat{nil, of(1), full(api.MaxNat)} {
		for _, m := range []api.Nat{nil, {}, {0}, make(api.Nat, 5000)} {
			for _, e := range []api.Nat{nil, of(1), full(api.MaxNat)} {
				got, err := nat.ModExp(a, e, m)
				refused(t, "ModExp", got, err, api.ErrArg, len(a), len(e), len(m))
			}
		}
	}
}

func TestP2_5Division(t *testing.T) {
	s := stream(8)
	ok := must(t)
	for i := range 3000 {
		a, b := s.nat(30), s.parts(1+s.below(20))
		if i%100 == 0 {
			a, b = s.nat(api.MaxNat), s.parts(1+s.below(api.MaxNat))
		}
		quotient, rest, e := nat.DivMod(a, b)
		same(t, "DivMod", e, api.OK, a, b)
		equal(t, "quotient times b and the rest", ok(nat.Add(ok(nat.Mul(quotient, b)), rest)), a, b)
		same(t, "Cmp of the rest", nat.Cmp(rest, b), -1, a, b)
	}
}

func TestP2_6Powers(t *testing.T) {
	s := stream(9)
	ok := must(t)
	for i := range 300 {
		a, e, f, m := s.nat(8), s.nat(3), s.nat(3), s.parts(1+s.below(8))
		if i%100 == 0 {
			a, m = s.parts(200), s.parts(150)
		}
		both := ok(nat.ModExp(a, ok(nat.Add(e, f)), m))
		product := ok(nat.Mul(ok(nat.ModExp(a, e, m)), ok(nat.ModExp(a, f, m))))
		_, rest, _ := nat.DivMod(product, m)
		equal(t, "ModExp of both", both, rest, a, e, f, m)
	}
}

func TestP2_7Divisor(t *testing.T) {
	s := stream(10)
	ok := must(t)
	for i := range 1000 {
		both := s.nat(9)
		a, b := ok(nat.Mul(both, s.nat(9))), ok(nat.Mul(both, s.parts(1+s.below(9))))
		if i%100 == 0 {
			a, b = s.nat(api.MaxNat), s.nat(api.MaxNat)
		}
		if len(b) == 0 {
			continue
		}
		divisor := ok(nat.GCD(a, b))
		for _, x := range []api.Nat{a, b} {
			_, rest, e := nat.DivMod(x, divisor)
			is(t, "rest by the divisor", rest, e, nil, a, b)
		}
		_, rest, _ := nat.DivMod(a, b)
		equal(t, "GCD of b and the rest", ok(nat.GCD(b, rest)), divisor, a, b)
		equal(t, "GCD turned about", ok(nat.GCD(b, a)), divisor, a, b)
	}
}

func TestP2_9Parts(t *testing.T) {
	s := stream(11)
	ok := must(t)
	for range 300 {
		a, k := s.parts(1+s.below(api.MaxNat)), 1+s.below(api.MaxNat-1)
		up := power(32 * k)
		higher, e := nat.Mul(a, up)
		if len(a)+k > api.MaxNat {
			refused(t, "Mul", higher, e, api.ErrLong, len(a), k)
			continue
		}
		is(t, "times 2^32 to the power k", higher, e, append(make(api.Nat, k), a...), k)
		quotient, rest, e := nat.DivMod(higher, up)
		is(t, "the quotient back", quotient, e, a, k)
		is(t, "its rest", rest, e, nil, k)
		below := s.nat(k)
		quotient, rest, e = nat.DivMod(ok(nat.Add(higher, below)), up)
		is(t, "the quotient of more", quotient, e, a, k)
		is(t, "its rest", rest, e, below, k)
	}
}

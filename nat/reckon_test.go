package nat_test

import (
	"math/big"
	"testing"

	"bailiwick/api"
	"bailiwick/nat"
)

// ofTwo are the functions of two numbers, and what they should tell.
func ofTwo() []struct {
	name string
	got  func(a, b api.Nat) (api.Nat, api.Errno)
	want func(a, b *big.Int) *big.Int
} {
	return []struct {
		name string
		got  func(a, b api.Nat) (api.Nat, api.Errno)
		want func(a, b *big.Int) *big.Int
	}{
		{"Add", nat.Add, func(a, b *big.Int) *big.Int { return new(big.Int).Add(a, b) }},
		{"Sub", nat.Sub, func(a, b *big.Int) *big.Int { return new(big.Int).Sub(a, b) }},
		{"Mul", nat.Mul, func(a, b *big.Int) *big.Int { return new(big.Int).Mul(a, b) }},
		{"GCD", nat.GCD, func(a, b *big.Int) *big.Int { return new(big.Int).GCD(nil, nil, a, b) }},
	}
}

// hold holds what a function of two numbers tells against what it should, noughts standing behind both.
func hold(t *testing.T, a, b api.Nat, noughts int) {
	t.Helper()
	for _, f := range ofTwo() {
		got, e := f.got(behind(a, noughts), behind(b, noughts/2))
		want := f.want(toBig(a), toBig(b))
		switch {
		case want.Sign() < 0:
			refused(t, f.name, got, e, api.ErrArg, a, b)
		case want.BitLen() > 32*api.MaxNat:
			refused(t, f.name, got, e, api.ErrLong, len(a), len(b))
		default:
			is(t, f.name, got, e, fromBig(want), a, b)
		}
	}
}

func TestP2_2OfTwo(t *testing.T) {
	for _, l := range [][]api.Nat{ends(), samples()} {
		for i, a := range l {
			for j, b := range l {
				hold(t, a, b, (i+j)%4)
			}
		}
	}
	s := stream(2)
	for range 3000 {
		hold(t, s.nat(40), s.nat(40), s.below(3))
	}
	for range 40 {
		hold(t, s.nat(api.MaxNat), s.nat(api.MaxNat), s.below(3))
	}
}

func TestP2_2Examples(t *testing.T) {
	for _, x := range []struct {
		name string
		call func(a, b api.Nat) (api.Nat, api.Errno)
		a, b api.Nat
		want api.Nat
	}{
		{"Add", nat.Add, nil, nil, nil}, {"Add", nat.Add, of(2), of(3), of(5)}, {"Add", nat.Add, full(1), of(1), api.Nat{0, 1}},
		{"Add", nat.Add, of(1), full(3), api.Nat{0, 0, 0, 1}}, {"Add", nat.Add, api.Nat{0, 0}, api.Nat{0}, nil},
		{"Sub", nat.Sub, of(3), of(3), nil}, {"Sub", nat.Sub, of(3), nil, of(3)}, {"Sub", nat.Sub, api.Nat{0, 0, 0, 1}, of(1), full(3)},
		{"Sub", nat.Sub, api.Nat{1, 1}, api.Nat{2, 0, 0}, full(1)},
		{"Mul", nat.Mul, of(6), of(7), of(42)}, {"Mul", nat.Mul, nil, full(1024), nil}, {"Mul", nat.Mul, full(1024), nil, nil},
		{"Mul", nat.Mul, full(1), full(1), api.Nat{1, 0xfffffffe}}, {"Mul", nat.Mul, full(1024), of(1), full(1024)},
		{"GCD", nat.GCD, nil, nil, nil}, {"GCD", nat.GCD, nil, of(9), of(9)}, {"GCD", nat.GCD, of(9), nil, of(9)},
		{"GCD", nat.GCD, of(12), of(18), of(6)}, {"GCD", nat.GCD, api.Nat{0, 0}, api.Nat{0, 6, 0}, api.Nat{0, 6}},
		{"GCD", nat.GCD, full(1024), full(1024), full(1024)}, {"GCD", nat.GCD, full(1024), full(1), full(1)},
		{"GCD", nat.GCD, full(1024), full(1023), full(1)}, {"GCD", nat.GCD, power(32767), api.Nat{0, 12}, api.Nat{0, 4}},
	} {
		got, e := x.call(x.a, x.b)
		is(t, x.name, got, e, x.want, x.a, x.b)
	}
}

func TestP2_2TooLong(t *testing.T) {
	most, some := full(api.MaxNat), full(api.MaxNat/2)
	got, e := nat.Add(most, of(1))
	refused(t, "Add", got, e, api.ErrLong)
	got, e = nat.Add(of(1), most)
	refused(t, "Add", got, e, api.ErrLong)
	got, e = nat.Add(most, most)
	refused(t, "Add", got, e, api.ErrLong)
	got, e = nat.Add(less(most, of(1)), of(1))
	is(t, "Add", got, e, most)
	got, e = nat.Mul(most, of(2))
	refused(t, "Mul", got, e, api.ErrLong)
	got, e = nat.Mul(most, most)
	refused(t, "Mul", got, e, api.ErrLong)
	got, e = nat.Mul(power(32*512), power(32*512))
	refused(t, "Mul", got, e, api.ErrLong)
	got, e = nat.Mul(power(32*512-1), power(32*512))
	is(t, "Mul", got, e, power(32*1024-1))
	got, e = nat.Mul(power(32*512), some)
	is(t, "Mul", got, e, append(make(api.Nat, 512), some...))
	got, e = nat.Mul(some, full(api.MaxNat/2+1))
	refused(t, "Mul", got, e, api.ErrLong)
}

func TestP2_2SubOfLess(t *testing.T) {
	for _, x := range [][2]api.Nat{
		{nil, of(1)}, {of(1), of(2)}, {full(2), api.Nat{0, 0, 1}}, {api.Nat{5, 1}, api.Nat{4, 2}}, {of(1), behind(of(2), 3)},
		{behind(of(1), 3), of(2)}, {less(full(1024), of(1)), full(1024)},
	} {
		got, e := nat.Sub(x[0], x[1])
		refused(t, "Sub", got, e, api.ErrArg, x)
		back, e := nat.Sub(x[1], x[0])
		is(t, "Sub", back, e, less(x[1], x[0]), x)
	}
}

func TestP2_2ErrorsOfCheckFirst(t *testing.T) {
	for _, long := range tooLong() {
		for _, a := range []api.Nat{nil, of(1), full(api.MaxNat), long} {
			for _, f := range ofTwo() {
				got, e := f.got(a, long)
				refused(t, f.name, got, e, api.ErrLong, len(a), len(long))
				got, e = f.got(long, a)
				refused(t, f.name, got, e, api.ErrLong, len(long), len(a))
			}
			for _, x := range [][2]api.Nat{{a, long}, {long, a}} {
				quotient, rest, e := nat.DivMod(x[0], x[1])
				refused(t, "DivMod", quotient, e, api.ErrLong)
				refused(t, "DivMod", rest, e, api.ErrLong)
			}
			for _, x := range [][3]api.Nat{{long, a, of(7)}, {a, long, of(7)}, {a, of(3), long}, {long, long, nil}, {long, a, nil}, {of(1), long, nil}} {
				got, e := nat.ModExp(x[0], x[1], x[2])
				refused(t, "ModExp", got, e, api.ErrLong)
			}
		}
	}
}

func TestP2_2NoughtsBehindAreNotTooMany(t *testing.T) {
	a, b := behind(of(12), 5000), behind(of(18), 3000)
	got, e := nat.Add(a, b)
	is(t, "Add", got, e, of(30))
	got, e = nat.Sub(b, a)
	is(t, "Sub", got, e, of(6))
	got, e = nat.Mul(a, b)
	is(t, "Mul", got, e, of(216))
	got, e = nat.GCD(a, b)
	is(t, "GCD", got, e, of(6))
	got, e = nat.ModExp(a, b, behind(of(35), 4000))
	is(t, "ModExp", got, e, of(29))
	quotient, rest, e := nat.DivMod(b, a)
	is(t, "DivMod", quotient, e, of(1))
	is(t, "DivMod", rest, e, of(6))
}

func TestP2_4Ring(t *testing.T) {
	s := stream(4)
	ok := must(t)
	l := append(ends(), samples()...)
	for range 3000 {
		a, b, c := l[s.below(len(l))], l[s.below(len(l))], s.nat(30)
		equal(t, "Add turned about", ok(nat.Add(a, b)), ok(nat.Add(b, a)), a, b)
		equal(t, "Mul turned about", ok(nat.Mul(a, b)), ok(nat.Mul(b, a)), a, b)
		equal(t, "Add of three", ok(nat.Add(ok(nat.Add(a, b)), c)), ok(nat.Add(a, ok(nat.Add(b, c)))), a, b, c)
		equal(t, "Mul of three", ok(nat.Mul(ok(nat.Mul(a, b)), c)), ok(nat.Mul(a, ok(nat.Mul(b, c)))), a, b, c)
		equal(t, "Mul over Add", ok(nat.Mul(c, ok(nat.Add(a, b)))), ok(nat.Add(ok(nat.Mul(c, a)), ok(nat.Mul(c, b)))), a, b, c)
		equal(t, "Sub of Add", ok(nat.Sub(ok(nat.Add(a, c)), c)), a, c)
		equal(t, "Add of nothing", ok(nat.Add(a, nil)), a)
		equal(t, "Mul by 1", ok(nat.Mul(of(1), a)), a)
		equal(t, "Mul by 0", ok(nat.Mul(a, nil)), nil, a)
	}
}

func TestP2_4RingOfLongOnes(t *testing.T) {
	s := stream(5)
	ok := must(t)
	for range 30 {
		a, b, c := s.nat(500), s.nat(500), s.nat(500)
		equal(t, "Add turned about", ok(nat.Add(a, b)), ok(nat.Add(b, a)))
		equal(t, "Mul turned about", ok(nat.Mul(a, b)), ok(nat.Mul(b, a)))
		equal(t, "Add of three", ok(nat.Add(ok(nat.Add(a, b)), c)), ok(nat.Add(a, ok(nat.Add(b, c)))))
		equal(t, "Mul over Add", ok(nat.Mul(c, ok(nat.Add(a, b)))), ok(nat.Add(ok(nat.Mul(c, a)), ok(nat.Mul(c, b)))))
		a, b, c = s.nat(340), s.nat(340), s.nat(340)
		equal(t, "Mul of three", ok(nat.Mul(ok(nat.Mul(a, b)), c)), ok(nat.Mul(a, ok(nat.Mul(b, c)))))
	}
}

package nat_test

import (
	"math"
	"slices"
	"testing"

	"bailiwick/api"
	"bailiwick/nat"
)

func TestP2_1Plain(t *testing.T) {
	for _, x := range []struct{ a, want api.Nat }{
		{nil, nil}, {api.Nat{}, nil}, {api.Nat{0}, nil}, {api.Nat{0, 0, 0}, nil},
		{api.Nat{1}, api.Nat{1}}, {api.Nat{1, 0}, api.Nat{1}}, {api.Nat{0, 1}, api.Nat{0, 1}},
		{api.Nat{0, 0, 7, 0, 0}, api.Nat{0, 0, 7}}, {api.Nat{5, 0, 1 << 31, 0}, api.Nat{5, 0, 1 << 31}},
		{full(api.MaxNat + 1), full(api.MaxNat + 1)}, {behind(full(5000), 3000), full(5000)},
	} {
		if got := nat.Plain(x.a); !slices.Equal(got, x.want) {
			t.Fatalf("Plain of %v: got %v, want %v", x.a, got, x.want)
		}
	}
	for _, a := range append(ends(), samples()...) {
		for n := range 4 {
			if got := nat.Plain(behind(a, n)); !slices.Equal(got, a) {
				t.Fatalf("Plain of %v with %d noughts behind: got %v", a, n, got)
			}
		}
	}
}

func TestP2_1Check(t *testing.T) {
	for _, x := range []struct {
		a    api.Nat
		want api.Errno
	}{
		{nil, api.OK}, {api.Nat{0}, api.OK}, {of(1), api.OK},
		{full(api.MaxNat - 1), api.OK}, {full(api.MaxNat), api.OK}, {full(api.MaxNat + 1), api.ErrLong},
		{power(32*api.MaxNat - 1), api.OK}, {power(32*api.MaxNat - 32), api.OK}, {power(32 * api.MaxNat), api.ErrLong},
		{behind(full(api.MaxNat), 1), api.OK}, {behind(full(api.MaxNat), 5000), api.OK},
		{behind(full(api.MaxNat+1), 1), api.ErrLong}, {behind(of(1), 100_000), api.OK},
		{make(api.Nat, 100_000), api.OK}, {full(100_000), api.ErrLong},
	} {
		same(t, "Check", nat.Check(x.a), x.want, len(x.a))
	}
}

func TestP2_1Cmp(t *testing.T) {
	for _, l := range [][]api.Nat{ends(), samples()} {
		for _, a := range l {
			for _, b := range l {
				same(t, "Cmp", nat.Cmp(a, b), toBig(a).Cmp(toBig(b)), a, b)
			}
		}
	}
	for _, x := range []struct {
		a, b api.Nat
		want int
	}{
		{nil, nil, 0}, {nil, api.Nat{0, 0}, 0}, {nil, of(1), -1}, {of(1), nil, 1},
		{api.Nat{1, 2}, api.Nat{2, 1}, 1}, {api.Nat{1, 2}, api.Nat{2, 2}, -1}, {api.Nat{math.MaxUint32}, api.Nat{0, 1}, -1},
		{api.Nat{1 << 31}, api.Nat{1}, 1}, {behind(of(5), 9), of(6), -1}, {of(5), behind(of(6), 9), -1},
	} {
		same(t, "Cmp", nat.Cmp(x.a, x.b), x.want, x.a, x.b)
	}
}

func TestP2_1CmpOfManyParts(t *testing.T) {
	more := append(api.Nat{2}, full(3000)...)
	some := append(api.Nat{1}, full(3000)...)
	same(t, "Cmp", nat.Cmp(some, more), -1)
	same(t, "Cmp", nat.Cmp(more, some), 1)
	same(t, "Cmp", nat.Cmp(more, behind(more, 70)), 0)
	same(t, "Cmp", nat.Cmp(behind(some, 70), more), -1)
	same(t, "Cmp", nat.Cmp(full(1024), full(1025)), -1)
	same(t, "Cmp", nat.Cmp(power(32*5000), full(5000)), 1)
}

func TestP2_1Len(t *testing.T) {
	for _, x := range []struct {
		a    api.Nat
		want int
	}{
		{nil, 0}, {api.Nat{0, 0}, 0}, {of(1), 1}, {of(2), 2}, {of(255), 8}, {of(256), 9}, {of(1 << 31), 32},
		{api.Nat{0, 1}, 33}, {api.Nat{0, 1, 0}, 33}, {full(api.MaxNat), 32768}, {power(32768), 32769},
		{behind(full(5000), 1), 160_000},
	} {
		same(t, "Len", nat.Len(x.a), x.want, len(x.a))
	}
	for _, a := range append(ends(), samples()...) {
		same(t, "Len", nat.Len(a), toBig(a).BitLen(), a)
	}
}

func TestP2_8NoughtsBehind(t *testing.T) {
	l := samples()
	for i, a := range l {
		for j, b := range l {
			want := nat.Cmp(a, b)
			same(t, "Cmp", nat.Cmp(behind(a, i%5), behind(b, j%3)), want, a, b)
			same(t, "Cmp turned about", nat.Cmp(b, a), -want, a, b)
		}
		for n := range 5 {
			same(t, "Len", nat.Len(behind(a, n)), nat.Len(a), a, n)
			same(t, "Cmp with itself", nat.Cmp(behind(a, n), a), 0, a, n)
		}
	}
}

func TestP2_8MoreBits(t *testing.T) {
	for _, l := range [][]api.Nat{ends(), samples()} {
		for _, a := range l {
			for _, b := range l {
				if nat.Len(a) > nat.Len(b) {
					same(t, "Cmp", nat.Cmp(a, b), 1, a, b)
					same(t, "Cmp", nat.Cmp(b, a), -1, a, b)
				}
			}
		}
	}
}

func TestP2_8Order(t *testing.T) {
	l := samples()
	slices.SortFunc(l, nat.Cmp)
	for i, a := range l {
		for _, b := range l[i:] {
			if toBig(a).Cmp(toBig(b)) > 0 {
				t.Fatalf("%v stands ahead of %v", a, b)
			}
		}
	}
}

package nat_test

import (
	"math"
	"math/big"
	"slices"
	"testing"

	"bailiwick/api"
)

// stream makes numbers that look like any, and are the same ones in each run.
type stream uint64

func (s *stream) next() uint64 {
	*s += 0x9e3779b97f4a7c15
	x := uint64(*s)
	x = (x ^ x>>30) * 0xbf58476d1ce4e5b9
	x = (x ^ x>>27) * 0x94d049bb133111eb
	return x ^ x>>31
}

// below is a number from 0 to n - 1.
func (s *stream) below(n int) int {
	return int(s.next() % uint64(n))
}

// parts is a number of just n parts; about each third part is at the end of what a part can be.
func (s *stream) parts(n int) api.Nat {
	out := make(api.Nat, n)
	for i := range out {
		out[i] = s.part()
	}
	for n > 0 && out[n-1] == 0 {
		out[n-1] = s.part()
	}
	return out
}

func (s *stream) part() uint32 {
	ends := []uint32{0, 1, 1 << 31, math.MaxUint32, 1<<31 - 1, math.MaxUint32 - 1}
	if s.below(3) == 0 {
		return ends[s.below(len(ends))]
	}
	return uint32(s.next())
}

// nat is a number of at most n parts.
func (s *stream) nat(n int) api.Nat {
	return s.parts(s.below(n + 1))
}

// ends are numbers of at most four parts, each at the end of what a part can be.
func ends() []api.Nat {
	parts := []uint32{0, 1, 1 << 31, math.MaxUint32}
	var out []api.Nat
	for i := range 256 {
		a := api.Nat{parts[i&3], parts[i>>2&3], parts[i>>4&3], parts[i>>6]}
		for len(a) > 0 && a[len(a)-1] == 0 {
			a = a[:len(a)-1]
		}
		out = append(out, a)
	}
	return out
}

// samples are small numbers, some at powers of two, and some of any length.
func samples() []api.Nat {
	s := stream(1)
	var out []api.Nat
	for n := range uint32(9) {
		out = append(out, of(n))
	}
	for _, n := range []int{31, 32, 33, 63, 64, 65, 96, 320} {
		out = append(out, less(power(n), of(1)), power(n), append(api.Nat{1}, power(n)[1:]...))
	}
	for range 40 {
		out = append(out, s.nat(12))
	}
	return append(out, s.parts(60), s.parts(61))
}

// of is the number n.
func of(n uint32) api.Nat {
	if n == 0 {
		return nil
	}
	return api.Nat{n}
}

// power is 2 to the power n, which is above 31.
func power(n int) api.Nat {
	out := make(api.Nat, n/32+1)
	out[n/32] = 1 << (n % 32)
	return out
}

// full is the greatest number of n parts.
func full(n int) api.Nat {
	return slices.Repeat(api.Nat{math.MaxUint32}, n)
}

// behind is a with n noughts behind its highest part.
func behind(a api.Nat, n int) api.Nat {
	return slices.Concat(a, make(api.Nat, n))
}

// less is a less b, by math/big.
func less(a, b api.Nat) api.Nat {
	return fromBig(new(big.Int).Sub(toBig(a), toBig(b)))
}

func toBig(a api.Nat) *big.Int {
	out := make([]byte, 0, 4*len(a))
	for _, x := range slices.Backward(a) {
		out = append(out, byte(x>>24), byte(x>>16), byte(x>>8), byte(x))
	}
	return new(big.Int).SetBytes(out)
}

func fromBig(x *big.Int) api.Nat {
	b := x.Bytes()
	slices.Reverse(b)
	out := make(api.Nat, (len(b)+3)/4)
	for i, y := range b {
		out[i/4] |= uint32(y) << (i % 4 * 8)
	}
	return out
}

// tooLong are numbers that can't be.
func tooLong() []api.Nat {
	return []api.Nat{power(32 * api.MaxNat), full(api.MaxNat + 1), behind(power(32*api.MaxNat), 7), full(2 * api.MaxNat)}
}

// same holds got against want, and tells of what they are.
func same[T comparable](t *testing.T, what string, got, want T, of ...any) {
	t.Helper()
	if got != want {
		t.Fatalf("%s of %v: got %v, want %v", what, of, got, want)
	}
}

// equal holds the parts of got against those of want.
func equal(t *testing.T, what string, got, want api.Nat, of ...any) {
	t.Helper()
	if !slices.Equal(got, want) {
		t.Fatalf("%s of %v: got %v, want %v", what, of, got, want)
	}
}

// is holds an answer against a number without noughts behind, and OK.
func is(t *testing.T, what string, got api.Nat, e api.Errno, want api.Nat, of ...any) {
	t.Helper()
	same(t, what, e, api.OK, of...)
	equal(t, what, got, want, of...)
}

// refused holds an answer against none, and an error.
func refused(t *testing.T, what string, got api.Nat, e, want api.Errno, of ...any) {
	t.Helper()
	same(t, what, e, want, of...)
	if len(got) > 0 {
		t.Fatalf("%s of %v: got %v beside the error", what, of, got)
	}
}

// must tells the answer of a call that is not refused.
func must(t *testing.T) func(a api.Nat, e api.Errno) api.Nat {
	return func(a api.Nat, e api.Errno) api.Nat {
		t.Helper()
		if e != api.OK {
			t.Fatalf("refused: %v", e)
		}
		return a
	}
}

package nat_test

import (
	"bytes"
	"math"
	"slices"
	"testing"

	"bailiwick/api"
	"bailiwick/nat"
)

func TestP2_3From(t *testing.T) {
	for _, x := range []struct {
		b    []byte
		want api.Nat
	}{
		{nil, nil}, {[]byte{}, nil}, {[]byte{0}, nil}, {make([]byte, 9), nil}, {[]byte{1, 0}, of(256)}, {[]byte{7}, of(7)},
		{[]byte{1, 2, 3, 4}, of(0x01020304)}, {[]byte{1, 2, 3, 4, 5}, api.Nat{0x02030405, 1}},
		{[]byte{0, 0, 0, 0, 1, 2, 3, 4}, of(0x01020304)}, {[]byte{0x80, 0, 0, 0, 0, 0, 0, 0}, api.Nat{0, 1 << 31}},
	} {
		got, e := nat.From(x.b)
		is(t, "From", got, e, x.want, x.b)
	}
	for _, a := range append(ends(), samples()...) {
		b := toBig(a).Bytes()
		for n := range 9 {
			got, e := nat.From(append(make([]byte, n), b...))
			is(t, "From", got, e, a, b, n)
		}
	}
}

func TestP2_3FromAtTheEnd(t *testing.T) {
	most := bytes.Repeat([]byte{255}, 4*api.MaxNat)
	got, e := nat.From(most)
	is(t, "From", got, e, full(api.MaxNat))
	got, e = nat.From(append(make([]byte, 100_000), most...))
	is(t, "From", got, e, full(api.MaxNat))
	got, e = nat.From(append([]byte{1}, make([]byte, 4*api.MaxNat-1)...))
	is(t, "From", got, e, power(32*api.MaxNat-8))
	for _, b := range [][]byte{
		append([]byte{1}, most...), append([]byte{0, 0, 1}, most...),
		append([]byte{1}, make([]byte, 4*api.MaxNat)...), bytes.Repeat([]byte{1}, 100_000),
	} {
		got, e := nat.From(b)
		refused(t, "From", got, e, api.ErrLong, len(b))
	}
}

func TestP2_3Bytes(t *testing.T) {
	for _, x := range []struct {
		a    api.Nat
		size int
		want []byte
	}{
		{nil, 0, nil}, {nil, 1, []byte{0}}, {api.Nat{0, 0}, 3, []byte{0, 0, 0}}, {of(256), 2, []byte{1, 0}},
		{of(255), 1, []byte{255}}, {behind(of(255), 2000), 1, []byte{255}}, {of(7), 5, []byte{0, 0, 0, 0, 7}},
		{api.Nat{0x02030405, 1}, 5, []byte{1, 2, 3, 4, 5}}, {api.Nat{0x02030405, 1}, 9, []byte{0, 0, 0, 0, 1, 2, 3, 4, 5}},
	} {
		got, e := nat.Bytes(x.a, x.size)
		same(t, "Bytes", e, api.OK, x.a, x.size)
		if !bytes.Equal(got, x.want) {
			t.Fatalf("Bytes of %v, %d: got %v, want %v", x.a, x.size, got, x.want)
		}
	}
	for _, a := range append(ends(), samples()...) {
		least := (toBig(a).BitLen() + 7) / 8
		for _, size := range []int{least, least + 1, least + 4, least + 7, 4095, 4096} {
			got, e := nat.Bytes(behind(a, size%3), size)
			same(t, "Bytes", e, api.OK, a, size)
			if want := toBig(a).FillBytes(make([]byte, size)); !bytes.Equal(got, want) {
				t.Fatalf("Bytes of %v, %d: got %v, want %v", a, size, got, want)
			}
		}
	}
}

func TestP2_3BytesRefused(t *testing.T) {
	for _, x := range []struct {
		a    api.Nat
		size int
		want api.Errno
	}{
		{nil, -1, api.ErrArg}, {nil, 4097, api.ErrArg}, {nil, math.MinInt, api.ErrArg}, {nil, math.MaxInt, api.ErrArg},
		{nil, 1 << 60, api.ErrArg}, {nil, -1 << 61, api.ErrArg}, {nil, 1 << 61, api.ErrArg},
		{of(1), 0, api.ErrArg}, {of(256), 1, api.ErrArg}, {api.Nat{0, 1}, 4, api.ErrArg},
		{full(api.MaxNat), 4095, api.ErrArg}, {full(api.MaxNat), 4096, api.OK}, {full(api.MaxNat), 4097, api.ErrArg},
		{power(32760), 4095, api.ErrArg}, {power(32759), 4095, api.OK},
		{full(api.MaxNat + 1), -1, api.ErrLong}, {full(api.MaxNat + 1), 4096, api.ErrLong},
		{full(api.MaxNat + 1), 4100, api.ErrLong}, {power(32768), 0, api.ErrLong},
	} {
		got, e := nat.Bytes(x.a, x.size)
		same(t, "Bytes", e, x.want, len(x.a), x.size)
		if e != api.OK && len(got) > 0 {
			t.Fatalf("Bytes of %d parts, %d: got %v beside the error", len(x.a), x.size, got)
		}
	}
}

func TestP2_3ThereAndBack(t *testing.T) {
	s := stream(3)
	l := append(samples(), full(api.MaxNat), power(32767))
	for range 200 {
		l = append(l, s.nat(api.MaxNat))
	}
	for _, a := range l {
		for _, size := range []int{(nat.Len(a) + 7) / 8, 4096} {
			b, e := nat.Bytes(a, size)
			same(t, "Bytes", e, api.OK, a, size)
			same(t, "how many bytes", len(b), size, a)
			got, e := nat.From(b)
			is(t, "From of Bytes", got, e, a, size)
		}
	}
}

func TestP2_3NewMemory(t *testing.T) {
	b := []byte{0, 1, 2, 3, 4, 5, 6, 7, 8}
	kept := slices.Clone(b)
	a := must(t)(nat.From(b[:6]))
	scribble(a)
	if !bytes.Equal(b, kept) {
		t.Fatalf("From shares what it was handed: %v", b)
	}
	a = roomy(api.Nat{1, 2, 3})
	whatWas := slices.Clone(whole(a))
	out, _ := nat.Bytes(a, 12)
	clear(out[:cap(out)])
	equal(t, "what Bytes was handed", whole(a), whatWas)
}

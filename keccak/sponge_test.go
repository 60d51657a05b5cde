package keccak_test

import (
	"bytes"
	"slices"
	"testing"

	"bailiwick/keccak"
)

// written is a sponge to which parts were written.
func written(parts ...[]byte) *keccak.Sponge {
	s := keccak.New()
	for _, b := range parts {
		s.Write(b)
	}
	return s
}

func TestP3_3New(t *testing.T) {
	same(t, "Sum", keccak.New().Sum(), hash(t, "c5d2460186f7233c927e7db2dcc703c0e500b653ca82273b7bfad8045d85a470"))
	same(t, "Sum", written([]byte("abc")).Sum(), hash(t, "4e03657aea45a94fc7d47ba826c8d667c0d1e6e33a64a036ec44f58fa12d6c45"))
	for n := range 450 {
		same(t, "Sum", written(counted(n)).Sum(), hashed(counted(n), 0x01, permuted), n)
	}
}

func TestP3_3SumBetweenWrites(t *testing.T) {
	for _, size := range []int{1, 7, 68, 135, 136, 137, 271, 272, 273} {
		s := keccak.New()
		all := counted(6 * 136)
		for i := 0; i < len(all); i += size {
			s.Write(all[i:min(i+size, len(all))])
			want := keccak.Sum(all[:min(i+size, len(all))])
			same(t, "Sum", s.Sum(), want, size, i)
			same(t, "Sum again", s.Sum(), want, size, i)
		}
	}
}

func TestP3_3WritesOfNoBytes(t *testing.T) {
	for _, n := range []int{0, 1, 135, 136, 137, 271, 272, 273} {
		b := counted(n)
		for _, none := range [][]byte{nil, {}, roomy(nil)} {
			same(t, "Sum", written(none, b).Sum(), keccak.Sum(b), n)
			same(t, "Sum", written(b, none, none).Sum(), keccak.Sum(b), n)
			same(t, "Sum", written(b[:n/2], none, b[n/2:]).Sum(), keccak.Sum(b), n)
			s := written(b)
			s.Sum()
			s.Write(none)
			same(t, "Sum behind a Sum", s.Sum(), keccak.Sum(b), n)
		}
	}
}

func TestP3_3Reset(t *testing.T) {
	for _, n := range []int{0, 1, 135, 136, 137, 271, 272, 273} {
		s := written(counted(n))
		if n%2 == 0 {
			s.Sum()
		}
		s.Reset()
		same(t, "Sum behind Reset", s.Sum(), keccak.Sum(nil), n)
		for _, next := range []int{0, 3, 136, 200} {
			s.Write(counted(next))
			same(t, "Sum of what was written behind Reset", s.Sum(), keccak.Sum(counted(next)), n, next)
			s.Reset()
			s.Reset()
		}
	}
}

func TestP3_3NotKept(t *testing.T) {
	for n := range 300 {
		first, second := roomy(counted(n)), roomy(counted(n+50))
		want := keccak.Sum(slices.Concat(first, second))
		s := keccak.New()
		s.Write(first)
		scribble(first)
		s.Write(second)
		scribble(second)
		same(t, "Sum of what was changed afterwards", s.Sum(), want, n)
	}
}

func TestP3_3NotChanged(t *testing.T) {
	for _, n := range []int{0, 1, 135, 136, 137, 271, 272, 273} {
		s := written(counted(40))
		b := roomy(counted(n))
		kept := slices.Clone(b[:cap(b)])
		s.Write(b)
		s.Sum()
		s.Reset()
		s.Write(counted(500))
		if !bytes.Equal(b[:cap(b)], kept) {
			t.Fatalf("what was handed in, %d bytes, was changed", n)
		}
	}
}

func TestP3_3SumStays(t *testing.T) {
	s := written(counted(100))
	got := s.Sum()
	kept := got
	s.Write(counted(100))
	s.Reset()
	same(t, "an earlier Sum", got, kept)
}

func TestP3_3TwoSponges(t *testing.T) {
	a, b := keccak.New(), keccak.New()
	var toA, toB []byte
	for n := range 60 {
		a.Write(counted(n))
		toA = append(toA, counted(n)...)
		b.Write(counted(2 * n))
		toB = append(toB, counted(2*n)...)
		same(t, "Sum of one", a.Sum(), keccak.Sum(toA), n)
		same(t, "Sum of the other", b.Sum(), keccak.Sum(toB), n)
	}
	a.Reset()
	same(t, "Sum of the other behind Reset", b.Sum(), keccak.Sum(toB))
}

func TestP3_4TwoParts(t *testing.T) {
	for _, n := range []int{1, 2, 135, 136, 137, 138, 271, 272, 273, 408, 420} {
		b := counted(n)
		want := hashed(b, 0x01, permuted)
		for cut := range n + 1 {
			same(t, "Sum", written(b[:cut], b[cut:]).Sum(), want, n, cut)
		}
	}
}

func TestP3_4PartsOfOneSize(t *testing.T) {
	b := counted(1500)
	want := hashed(b, 0x01, permuted)
	for size := 1; size <= 300; size++ {
		same(t, "Sum", written(slices.Collect(slices.Chunk(b, size))...).Sum(), want, size)
	}
}

func TestP3_4AnyParts(t *testing.T) {
	d := draw(4)
	for range 2000 {
		b := counted(d.IntN(900))
		var parts [][]byte
		for rest := b; len(rest) > 0; {
			n := min(d.IntN(300), len(rest))
			parts = append(parts, rest[:n])
			rest = rest[n:]
		}
		same(t, "Sum", written(parts...).Sum(), keccak.Sum(b), len(b), len(parts))
	}
}

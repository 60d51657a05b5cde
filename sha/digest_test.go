package sha_test

import (
	"bytes"
	"slices"
	"testing"

	"bailiwick/sha"
)

// written is a digest to which parts were written.
func written(parts ...[]byte) *sha.Digest {
	d := sha.New()
	for _, b := range parts {
		d.Write(b)
	}
	return d
}

func TestP4_2New(t *testing.T) {
	same(t, "Sum", sha.New().Sum(), hash(t, "e3b0c44298fc1c149afbf4c8996fb92427ae41e4649b934ca495991b7852b855"))
	same(t, "Sum", written([]byte("abc")).Sum(), hash(t, "ba7816bf8f01cfea414140de5dae2223b00361a396177a9cb410ff61f20015ad"))
	for n := range 300 {
		same(t, "Sum", written(counted(n)).Sum(), hashed(counted(n)), n)
	}
}

func TestP4_2SumBetweenWrites(t *testing.T) {
	for _, size := range []int{1, 7, 31, 55, 56, 63, 64, 65, 127, 128, 129} {
		d := sha.New()
		all := counted(400)
		for from := 0; from < len(all); from += size {
			to := min(from+size, len(all))
			d.Write(all[from:to])
			want := hashed(all[:to])
			same(t, "Sum", d.Sum(), want, size, to)
			same(t, "Sum again", d.Sum(), want, size, to)
		}
	}
}

// What was summed behind any number of bytes may be written further by any number.
func TestP4_2WritesBehindASum(t *testing.T) {
	for _, first := range edges {
		for _, second := range edges {
			d := written(counted(first))
			d.Sum()
			all := counted(first + second)
			d.Write(all[first:])
			same(t, "Sum", d.Sum(), hashed(all), first, second)
		}
	}
}

func TestP4_2WritesOfNoBytes(t *testing.T) {
	for _, n := range edges {
		b := counted(n)
		want := hashed(b)
		for _, none := range [][]byte{nil, {}, roomy(nil)} {
			same(t, "Sum", written(none, b).Sum(), want, n)
			same(t, "Sum", written(b, none, none).Sum(), want, n)
			same(t, "Sum", written(b[:n/2], none, b[n/2:]).Sum(), want, n)
			d := written(b)
			d.Sum()
			d.Write(none)
			same(t, "Sum behind a Sum", d.Sum(), want, n)
		}
	}
}

func TestP4_2NotKept(t *testing.T) {
	for n := range 200 {
		first, second := roomy(counted(n)), roomy(counted(n+50))
		want := hashed(slices.Concat(first, second))
		d := sha.New()
		d.Write(first)
		scribble(first)
		d.Write(second)
		scribble(second)
		same(t, "Sum of what was changed afterwards", d.Sum(), want, n)
	}
}

func TestP4_2NotChanged(t *testing.T) {
	for _, n := range edges {
		d := written(counted(40))
		b := roomy(counted(n))
		kept := slices.Clone(b[:cap(b)])
		d.Write(b)
		d.Sum()
		d.Write(counted(300))
		d.Sum()
		if !bytes.Equal(b[:cap(b)], kept) {
			t.Fatalf("what was handed in, %d bytes, was changed", n)
		}
	}
}

func TestP4_2SumStays(t *testing.T) {
	d := written(counted(100))
	got := d.Sum()
	d.Write(counted(100))
	d.Sum()
	same(t, "an earlier Sum", got, hashed(counted(100)))
}

func TestP4_2TwoDigests(t *testing.T) {
	a, b := sha.New(), sha.New()
	var toA, toB []byte
	for n := range 60 {
		a.Write(counted(n))
		toA = append(toA, counted(n)...)
		b.Write(counted(2 * n))
		toB = append(toB, counted(2*n)...)
		sha.Sum(toB)
		sha.HMAC(toA, toB)
		same(t, "Sum of one", a.Sum(), hashed(toA), n)
		same(t, "Sum of the other", b.Sum(), hashed(toB), n)
	}
	same(t, "Sum of a new one", sha.New().Sum(), hashed(nil))
}

func TestP4_3TwoParts(t *testing.T) {
	for _, n := range append(edges, 300) {
		b := counted(n)
		want := hashed(b)
		for cut := range n + 1 {
			same(t, "Sum", written(b[:cut], b[cut:]).Sum(), want, n, cut)
		}
	}
}

func TestP4_3ThreeParts(t *testing.T) {
	b := counted(130)
	want := hashed(b)
	for one := range len(b) + 1 {
		for two := one; two <= len(b); two++ {
			same(t, "Sum", written(b[:one], b[one:two], b[two:]).Sum(), want, one, two)
		}
	}
}

func TestP4_3PartsOfOneSize(t *testing.T) {
	b := counted(1500)
	want := hashed(b)
	for size := 1; size <= 300; size++ {
		same(t, "Sum", written(slices.Collect(slices.Chunk(b, size))...).Sum(), want, size)
	}
}

func TestP4_3AnyParts(t *testing.T) {
	d := draw(3)
	for range 2000 {
		b := drawn(d, d.IntN(900))
		var parts [][]byte
		for rest := b; len(rest) > 0; {
			n := min(d.IntN(200), len(rest))
			parts = append(parts, rest[:n])
			rest = rest[n:]
		}
		same(t, "Sum", written(parts...).Sum(), sha.Sum(b), len(b), len(parts))
	}
}

package ripemd_test

import (
	"math"
	"slices"
	"testing"

	"bailiwick/ripemd"
)

func TestP5_2Answers(t *testing.T) {
	ones := [5]uint32{math.MaxUint32, math.MaxUint32, math.MaxUint32, math.MaxUint32, math.MaxUint32}
	count := [64]byte(counted(64))
	for _, x := range []struct {
		h    [5]uint32
		b    [64]byte
		want [5]uint32
	}{
		{begun, [64]byte{0x80}, [5]uint32{0xa585119c, 0x54fce9c5, 0x97082861, 0x48f5e87e, 0x318d25b2}},
		{begun, [64]byte{}, [5]uint32{0x187e9bc5, 0x248b9535, 0xd0d6ddcc, 0x987c4e30, 0xcb45101f}},
		{begun, count, [5]uint32{0xd6e08676, 0xa2e0eaba, 0xc4a552b7, 0x3b94adcb, 0x54768374}},
		{[5]uint32{}, [64]byte{}, [5]uint32{0x6bb9fe69, 0x3d09c7c0, 0x48ed6a0e, 0x7d117c5d, 0xadc8e12d}},
		{[5]uint32{}, filled(0xff), [5]uint32{0xaa50ec0b, 0x227b2934, 0x69eb8d1a, 0xcbdb86b0, 0xe81fd8b2}},
		{ones, [64]byte{}, [5]uint32{0x6e7c8bc8, 0xb6f4fd42, 0x907b2357, 0xa74617a5, 0xe75987e3}},
		{ones, filled(0xff), [5]uint32{0xf282655d, 0xd3828cf1, 0x4fe5e0c5, 0xa3892b3e, 0xd14f6fce}},
		{[5]uint32{1, 2, 3, 4, 5}, count, [5]uint32{0xe0332f16, 0x79b67e03, 0x4217b3a6, 0xd2918daa, 0x4ed6e358}},
		{[5]uint32{1 << 31}, count, [5]uint32{0xabfa0a30, 0xb6eee422, 0x364cdeba, 0x98f37ecc, 0x78175305}},
		{[5]uint32{1: 1 << 31}, count, [5]uint32{0x72f738a0, 0x85e36fbb, 0xb4fe5b7e, 0xa071518a, 0x95396137}},
		{[5]uint32{2: 1 << 31}, count, [5]uint32{0xa78c824c, 0xb34e540c, 0x3046a04a, 0x5cc5883a, 0x34ea59ac}},
		{[5]uint32{3: 1 << 31}, count, [5]uint32{0xf70b03d2, 0x574ffe1a, 0xbf9750f5, 0x0b51f39f, 0xcf324782}},
		{[5]uint32{4: 1 << 31}, count, [5]uint32{0x1374ebf1, 0x1d3b836c, 0x9c3ae94f, 0x7979d75b, 0xc21fec4d}},
	} {
		same(t, "Block", ripemd.Block(x.h, x.b), x.want, x.h, x.b)
		same(t, "the chapter's words", blocked(x.h, x.b), x.want, x.h, x.b)
	}
}

func TestP5_2AnyNumbers(t *testing.T) {
	d := draw(4)
	for _, h := range fives() {
		for _, b := range [][64]byte{{}, filled(0xff), [64]byte(counted(64)), [64]byte(drawn(d, 64))} {
			same(t, "Block", ripemd.Block(h, b), blocked(h, b), h, b)
		}
	}
}

func TestP5_2AnyBytes(t *testing.T) {
	d := draw(5)
	for _, b := range blocks() {
		drawn := [5]uint32{d.Uint32(), d.Uint32(), d.Uint32(), d.Uint32(), d.Uint32()}
		for _, h := range [][5]uint32{{}, begun, drawn} {
			same(t, "Block", ripemd.Block(h, b), blocked(h, b), h, b)
		}
	}
}

// What comes out goes in again.
func TestP5_2ManyTimes(t *testing.T) {
	var h [5]uint32
	for range 1000 {
		h = ripemd.Block(h, [64]byte(counted(64)))
	}
	same(t, "Block", h, [5]uint32{0x6ddecb13, 0x5cf30d79, 0xeff09666, 0x6f529a82, 0x2d1010c2}, "1000 times 0 to 63")
	h = [5]uint32{}
	var b [64]byte
	for n := range 1000 {
		h = ripemd.Block(h, b)
		for i := range b {
			b[i] += byte(h[i%5]>>(8*(i%4))) + byte(n)
		}
	}
	same(t, "Block", h, [5]uint32{0xb74d4afe, 0x6b47daae, 0xa820c4fc, 0xed0681b8, 0xbaaa99bb}, "1000 blocks made of what came out")
}

func TestP5_2ArgumentsStay(t *testing.T) {
	for _, h := range fives() {
		b := [64]byte(counted(64))
		keptH, keptB := h, b
		first := ripemd.Block(h, b)
		same(t, "the five numbers handed in", h, keptH)
		same(t, "the bytes handed in", b, keptB)
		same(t, "Block again", ripemd.Block(h, b), first, h)
	}
}

func TestP5_3BlockByBlock(t *testing.T) {
	d := draw(6)
	for n := range 400 {
		b := drawn(d, n)
		same(t, "Sum", ripemd.Sum(b), asBytes(goneThrough(begun, padded(b), ripemd.Block)), n)
	}
	for range 300 {
		b := drawn(d, 64*d.IntN(40)+d.IntN(3)*d.IntN(64))
		same(t, "Sum", ripemd.Sum(b), asBytes(goneThrough(begun, padded(b), ripemd.Block)), len(b))
	}
}

// The blocks of a long text may be gone through in two goes, wherever the second one begins.
func TestP5_3InTwoGoes(t *testing.T) {
	b := counted(3000)
	all := padded(b)
	for cut := 0; cut <= len(all); cut += 64 {
		half := goneThrough(begun, all[:cut], ripemd.Block)
		same(t, "Sum", ripemd.Sum(b), asBytes(goneThrough(half, all[cut:], ripemd.Block)), cut)
	}
}

// What Sum of a text tells are the five numbers behind it and what ended it: Block goes on from there.
func TestP5_3GoneOnFromASum(t *testing.T) {
	for _, n := range edges {
		for _, further := range edges {
			begin := padded(counted(n))
			all := slices.Concat(begin, counted(further))
			h := asNumbers(ripemd.Sum(counted(n)))
			h = goneThrough(h, padded(all)[len(begin):], ripemd.Block)
			same(t, "Sum", ripemd.Sum(all), asBytes(h), n, further)
		}
	}
}

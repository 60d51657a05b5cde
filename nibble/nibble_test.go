package nibble_test

import (
	"bytes"
	"slices"
	"testing"

	"bailiwick/api"
	"bailiwick/nibble"
)

func TestP13_1Of(t *testing.T) {
	for many := range 3 {
		all(many, 256, func(b []byte) { equal(t, "Of", nibble.Of(b), toldOf(b), digits(b)) })
	}
	d := draw(11)
	for _, n := range sizes() {
		b := drawnBytes(d, n)
		equal(t, "Of", nibble.Of(b), toldOf(b), digits(b))
	}
	same(t, "how many nibbles", len(nibble.Of(nil)), 0)
}

// All lists of up to four numbers that are nibbles or just above, and of two bytes.
func TestP13_1Bytes(t *testing.T) {
	for many := range 5 {
		all(many, 18, func(n []byte) {
			b, e := nibble.Bytes(n)
			asBytes(t, b, e, n)
		})
	}
	for many := range 3 {
		all(many, 256, func(n []byte) {
			b, e := nibble.Bytes(n)
			asBytes(t, b, e, n)
		})
	}
	d := draw(12)
	for _, many := range sizes() {
		n := drawnNibbles(d, many)
		b, e := nibble.Bytes(n)
		asBytes(t, b, e, n)
	}
	b, e := nibble.Bytes(nil)
	asBytes(t, b, e, nil)
}

// One number above 15, wherever it stands, is refused; so are all numbers above it, and an odd number of nibbles.
func TestP13_1BytesRefuses(t *testing.T) {
	d := draw(13)
	for many := 1; many <= 66; many++ {
		for at := range many {
			for _, x := range []byte{15, 16, 17, 31, 32, 64, 127, 128, 240, 255} {
				n := drawnNibbles(d, many)
				n[at] = x
				b, e := nibble.Bytes(n)
				asBytes(t, b, e, n)
				refused := x > 15 || many%2 == 1
				same(t, "whether Bytes refuses", e == api.ErrForm, refused, digits(n))
			}
		}
	}
}

// All lists of up to four numbers that are nibbles or just above, and of two bytes.
func TestP13_2Pack(t *testing.T) {
	pack := func(n []byte) {
		for _, leaf := range []bool{false, true} {
			b, e := nibble.Pack(n, leaf)
			asPack(t, b, e, n, leaf)
		}
	}
	for many := range 5 {
		all(many, 18, pack)
	}
	for many := range 3 {
		all(many, 256, pack)
	}
	d := draw(21)
	for _, many := range sizes() {
		pack(drawnNibbles(d, many))
	}
	pack(nil)
}

// One number above 15, wherever it stands, is refused, be they of an even number or an odd one.
func TestP13_2PackRefuses(t *testing.T) {
	d := draw(22)
	for many := 1; many <= 66; many++ {
		for at := range many {
			for _, x := range []byte{15, 16, 17, 31, 32, 64, 127, 128, 240, 255} {
				n := drawnNibbles(d, many)
				n[at] = x
				leaf := d.IntN(2) == 0
				b, e := nibble.Pack(n, leaf)
				asPack(t, b, e, n, leaf)
				same(t, "whether Pack refuses", e == api.ErrForm, x > 15, digits(n))
			}
		}
	}
}

// All byte strings of up to two bytes, and those of three of which the first one looks like a path's, or nearly so.
func TestP13_2Unpack(t *testing.T) {
	found := 0
	unpack := func(b []byte) {
		n, leaf, e := nibble.Unpack(b)
		asUnpack(t, n, leaf, e, b)
		if e == api.OK {
			found++
		}
	}
	unpack(nil)
	for many := range 3 {
		all(many, 256, unpack)
	}
	// 00, 20, and 1 and 3 with any nibble behind them; each alone, and with any byte.
	same(t, "how many are paths", found, 34*257)
	for _, first := range []byte{0x00, 0x01, 0x0f, 0x10, 0x1f, 0x20, 0x21, 0x2f, 0x30, 0x3f, 0x40, 0x80, 0xf0} {
		all(2, 256, func(b []byte) { unpack(append([]byte{first}, b...)) })
	}
	d := draw(23)
	for _, many := range sizes() {
		for first := range 256 {
			if many < 5000 || first%16 < 2 {
				unpack(append([]byte{byte(first)}, drawnBytes(d, many)...))
			}
		}
	}
}

// All pairs of lists of up to four numbers below 3, and long ones that differ somewhere.
func TestP13_2Common(t *testing.T) {
	var l [][]byte
	for many := range 5 {
		all(many, 3, func(b []byte) { l = append(l, b) })
	}
	for _, a := range l {
		for _, b := range l {
			same(t, "Common", nibble.Common(a, b), toldCommon(a, b), digits(a), digits(b))
		}
	}
	d := draw(24)
	for _, many := range sizes() {
		a := drawnBytes(d, many)
		same(t, "Common of itself", nibble.Common(a, a), many, many)
		same(t, "Common of its like", nibble.Common(a, bytes.Clone(a)), many, many)
		same(t, "Common of it and none", nibble.Common(a, nil)+nibble.Common(nil, a), 0, many)
		for range 20 {
			if many == 0 {
				break
			}
			at := d.IntN(many)
			b := bytes.Clone(a)
			b[at] ^= 1 << d.IntN(8)
			same(t, "Common of what differs", nibble.Common(a, b), at, many, at)
			same(t, "Common of its beginning", nibble.Common(a[:at], a), at, many, at)
			same(t, "Common of what has its beginning", nibble.Common(a, a[:at]), at, many, at)
		}
	}
	same(t, "Common of none", nibble.Common(nil, nil), 0)
}

// Common looks at bytes, be they nibbles or not.
func TestP13_2CommonOfBytes(t *testing.T) {
	for a := range 256 {
		for b := range 256 {
			want := 1
			if a == b {
				want = 2
			}
			same(t, "Common", nibble.Common([]byte{200, byte(a)}, []byte{200, byte(b), 7}), want, a, b)
		}
	}
}

// The chapter's examples.
func TestP13_2Examples(t *testing.T) {
	b, e := nibble.Pack([]byte{1, 2, 3}, true)
	same(t, "Pack's error", e, api.OK)
	equal(t, "Pack", b, []byte{0x31, 0x23})
	b, e = nibble.Pack([]byte{1, 2}, false)
	same(t, "Pack's error", e, api.OK)
	equal(t, "Pack", b, []byte{0x00, 0x12})
}

func TestP13_3ThereAndBack(t *testing.T) {
	d := draw(31)
	for range 3000 {
		b := drawnBytes(d, d.IntN(70))
		back, e := nibble.Bytes(nibble.Of(b))
		same(t, "the error of Bytes", e, api.OK, digits(b))
		equal(t, "Bytes of Of", back, b, digits(b))
		n, wanted := drawnNibbles(d, d.IntN(140)), d.IntN(2) == 0
		path, e := nibble.Pack(n, wanted)
		same(t, "Pack's error", e, api.OK, digits(n))
		got, leaf, e := nibble.Unpack(path)
		same(t, "Unpack's error", e, api.OK, digits(n))
		same(t, "whether Unpack tells a leaf", leaf, wanted, digits(n))
		equal(t, "Unpack of Pack", got, n, digits(n))
	}
}

// What Unpack reads has just one form.
func TestP13_3PackOfUnpack(t *testing.T) {
	d := draw(32)
	found := 0
	for range 20_000 {
		b := drawnBytes(d, 1+d.IntN(40))
		b[0] %= 80
		n, leaf, e := nibble.Unpack(b)
		if e != api.OK {
			continue
		}
		found++
		path, e := nibble.Pack(n, leaf)
		same(t, "Pack's error", e, api.OK, digits(b))
		equal(t, "Pack of Unpack", path, b, digits(b))
	}
	if found < 5000 || found > 15_000 {
		t.Fatalf("%d of them are paths: that asks too little", found)
	}
}

func TestP13_4OneBehindTheOther(t *testing.T) {
	d := draw(41)
	for range 3000 {
		a, b := drawnBytes(d, d.IntN(40)), drawnBytes(d, d.IntN(40))
		equal(t, "Of", nibble.Of(slices.Concat(a, b)), slices.Concat(nibble.Of(a), nibble.Of(b)), digits(a), digits(b))
	}
}

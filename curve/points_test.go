package curve_test

import (
	"testing"

	"bailiwick/api"
	"bailiwick/curve"
	"bailiwick/word"
)

func TestP8_1On(t *testing.T) {
	for _, p := range append(nones(), some(draw(1), 200)...) {
		same(t, "On", curve.On(p), true, p)
		same(t, "On as told", toldOn(p), true, p)
	}
	for _, p := range strangers() {
		same(t, "On", curve.On(p), false, p)
		same(t, "On as told", toldOn(p), false, p)
	}
}

// On asks just for the curve's 7: not for another number, and not for another slope.
func TestP8_1OnOtherCurves(t *testing.T) {
	d := draw(2)
	for range 400 {
		p := api.Point{X: word.Of(d.Uint64N(1000)), Y: word.Of(d.Uint64N(1000))}
		same(t, "On", curve.On(p), toldOn(p), p)
	}
	for _, p := range some(d, 50)[1:] {
		for _, y := range []api.Word{p.X, word.Add(p.Y, word.Of(1)), word.Sub(p.Y, word.Of(1))} {
			q := api.Point{X: p.X, Y: y}
			same(t, "On", curve.On(q), false, q)
		}
		for _, x := range []api.Word{p.Y, word.Add(p.X, word.Of(1)), word.Sub(p.X, word.Of(1))} {
			q := api.Point{X: x, Y: p.Y}
			same(t, "On", curve.On(q), false, q)
		}
	}
}

func TestP8_1Same(t *testing.T) {
	all := append(some(draw(3), 20), strangers()[:17]...)
	for i, p := range all {
		for j, q := range all {
			same(t, "Same", curve.Same(p, q), i == j, p, q)
		}
		for _, q := range nones() {
			same(t, "Same", curve.Same(p, q), p.None, p, q)
			same(t, "Same", curve.Same(q, p), p.None, q, p)
		}
	}
	for _, p := range nones() {
		for _, q := range nones() {
			same(t, "Same", curve.Same(p, q), true, p, q)
		}
	}
}

// Same asks for X and for Y, in each of their parts.
func TestP8_1SameInAllParts(t *testing.T) {
	base := curve.Base()
	for k := range uint64(256) {
		bit := word.Shl(word.Of(k), word.Of(1))
		x := api.Point{X: flipped(base.X, bit), Y: base.Y}
		y := api.Point{X: base.X, Y: flipped(base.Y, bit)}
		same(t, "Same", curve.Same(base, x) || curve.Same(x, base), false, k)
		same(t, "Same", curve.Same(base, y) || curve.Same(y, base), false, k)
		same(t, "Same", curve.Same(x, x) && curve.Same(y, y), true, k)
	}
}

func TestP8_1Base(t *testing.T) {
	want := at("79be667ef9dcbbac55a06295ce870b07029bfcdb2dce28d959f2815b16f81798", "483ada7726a3c4655da4fbfc0e1108a8fd17b448a68554199c47d08ffb10d4b8")
	for range 2 {
		same(t, "Base", curve.Base(), want)
	}
}

// Pinned answers, made by a second program: X, and the Y that is even, and the one that is odd, if there are any.
func TestP8_3LiftAnswers(t *testing.T) {
	for _, x := range []struct{ x, even, odd string }{
		{"0", "", ""},
		{"1", "4218f20ae6c646b363db68605822fb14264ca8d2587fdd6fbc750d587e76a7ee", "bde70df51939b94c9c24979fa7dd04ebd9b3572da7802290438af2a681895441"},
		{"2", "66fbe727b2ba09e09f5a98d70a5efce8424c5fa425bbda1c511f860657b8535e", "990418d84d45f61f60a56728f5a10317bdb3a05bda4425e3aee079f8a847a8d1"},
		{"3", "d0dccc6a374f85c7cb5f1a6425bc6bb4a20c877ad1a9f143f0dd788060b640e4", "2f233395c8b07a3834a0e59bda43944b5df378852e560ebc0f22877e9f49bb4b"},
		{"5", "", ""},
		{"6", "2a410a830399bcccd3f8b867bbadb95cb5a17786b4e7a0250dff50b7873a9a40", "d5bef57cfc6643332c074798445246a34a5e88794b185fdaf200af4778c561ef"},
		{"fffffffffffffffffffffffffffffffffffffffffffffffffffffffefffffc2b", "7c7753d9dada4821d426ba118c8e37544ed5a177cb92f437deee68db39e20902", "8388ac262525b7de2bd945ee7371c8abb12a5e88346d0bc821119723c61df32d"},
		{"fffffffffffffffffffffffffffffffffffffffffffffffffffffffefffffc2c", "f166b4eb158d073c146a38e1096da8a188afa7ccd281ad2f66a307fb778e45b2", "0e994b14ea72f8c3eb95c71ef692575e775058332d7e52d0995cf8038871b67d"},
		{"fffffffffffffffffffffffffffffffffffffffffffffffffffffffefffffc2d", "", ""},
		{"fffffffffffffffffffffffffffffffffffffffffffffffffffffffefffffc2e", "", ""},
		{"fffffffffffffffffffffffffffffffffffffffffffffffffffffffefffffc2f", "", ""},
		{"fffffffffffffffffffffffffffffffffffffffffffffffffffffffefffffc30", "", ""},
		{"fffffffffffffffffffffffffffffffffffffffffffffffffffffffefffffc31", "", ""},
		{"ffffffffffffffffffffffffffffffffffffffffffffffffffffffffffffffff", "", ""},
		{"844b69c4d54cc264bc2dadb6bb70f53bc123beafc0f58d81ed8cd4a07c24a5a7", "668a6e5ecb2a075c93460dfe9cdbcdf0697e926e482f35596920a237f70207d2", "997591a134d5f8a36cb9f2016324320f96816d91b7d0caa696df5dc708fdf45d"},
		{"844ecc08164e2eab27634a9adee1afa6599e589570e719784e080ce747fc0e45", "", ""},
		{"29f2394eb92d0ded9247b8d7188ebddae3e13c71ebcf939302619b29604486b0", "1c6fec1ecba89dacc8e5913677fe66e4818cf5bbf67fd17385baefea8d84e41e", "e39013e134576253371a6ec98801991b7e730a4409802e8c7a451014727b1811"},
	} {
		lifted(t, hex(x.x), false, x.even)
		lifted(t, hex(x.x), true, x.odd)
	}
}

// lifted holds what Lift answers: the point of this Y, or none.
func lifted(t *testing.T, x api.Word, odd bool, y string) {
	t.Helper()
	got, e := curve.Lift(x, odd)
	if y == "" {
		same(t, "Lift's error", e, api.ErrCurve, x, odd)
		same(t, "Lift", got, none(), x, odd)
		return
	}
	same(t, "Lift's error", e, api.OK, x, odd)
	same(t, "Lift", got, api.Point{X: x, Y: hex(y)}, x, odd)
}

func TestP8_3Lift(t *testing.T) {
	d := draw(4)
	found := 0
	for _, x := range numbers(d, 250) {
		even, odd, is := toldLift(x)
		want := api.ErrCurve
		if is {
			want = api.OK
			found++
		}
		got, e := curve.Lift(x, false)
		same(t, "Lift's error", e, want, x)
		same(t, "Lift to an even Y", got, even, x)
		got, e = curve.Lift(x, true)
		same(t, "Lift's error", e, want, x)
		same(t, "Lift to an odd Y", got, odd, x)
	}
	if found < 100 || found > 200 {
		t.Fatalf("%d of some 300 numbers are the X of a point", found)
	}
}

// A point's X and Y lead back to it.
func TestP8_3LiftBack(t *testing.T) {
	for _, p := range some(draw(5), 60)[1:] {
		odd := p.Y[0]%2 == 1
		got, e := curve.Lift(p.X, odd)
		same(t, "Lift's error", e, api.OK, p)
		same(t, "Lift", got, p, p)
		got, e = curve.Lift(p.X, !odd)
		same(t, "Lift's error", e, api.OK, p)
		same(t, "Lift to the other Y", got, toldNeg(p), p)
	}
}

func TestP8_3Bytes(t *testing.T) {
	for _, p := range some(draw(6), 60)[1:] {
		got, e := curve.Bytes(p)
		same(t, "Bytes' error", e, api.OK, p)
		x, y := toBig(p.X), toBig(p.Y)
		var want [64]byte
		x.FillBytes(want[:32])
		y.FillBytes(want[32:])
		same(t, "Bytes", got, want, p)
	}
	got, _ := curve.Bytes(smallX())
	same(t, "the byte of a small X", got[31], 1)
	same(t, "the bytes ahead of a small X", [31]byte(got[:31]), [31]byte{})
	same(t, "the first byte of Y", got[32], 0x42)
	same(t, "the last byte of Y", got[63], 0xee)
	got, _ = curve.Bytes(smallY())
	same(t, "the byte of a small Y", got[63], 1)
	same(t, "the bytes ahead of a small Y", [31]byte(got[32:63]), [31]byte{})
}

func TestP8_3BytesRefused(t *testing.T) {
	for _, p := range strangers() {
		got, e := curve.Bytes(p)
		same(t, "Bytes' error", e, api.ErrCurve, p)
		same(t, "Bytes", got, [64]byte{}, p)
	}
	for _, p := range nones() {
		got, e := curve.Bytes(p)
		same(t, "Bytes' error", e, api.ErrZero, p)
		same(t, "Bytes", got, [64]byte{}, p)
	}
}

package pairing_test

import (
	"bytes"
	"math/big"
	"math/rand/v2"
	"slices"
	"strings"
	"testing"

	"bailiwick/api"
	"bailiwick/pairing"
	"bailiwick/word"
)

// written are the numbers' bytes, the highest of each first.
func written(l ...api.Word) []byte {
	var out []byte
	for _, a := range l {
		out = append(out, toBig(a).FillBytes(make([]byte, 32))...)
	}
	return out
}

// pointBytes are X and Y; of None noughts.
func pointBytes(p api.Point) []byte {
	if p.None {
		return make([]byte, 64)
	}
	return written(p.X, p.Y)
}

// twistBytes are X's part of i, X's of 1, Y's of i, Y's of 1; of None noughts.
func twistBytes(q api.Twist) []byte {
	if q.None {
		return make([]byte, 128)
	}
	return written(q.X[1], q.X[0], q.Y[1], q.Y[0])
}

func pairBytes(l []api.Point, m []api.Twist) []byte {
	var out []byte
	for i, p := range l {
		out = append(out, pointBytes(p)...)
		out = append(out, twistBytes(m[i])...)
	}
	return out
}

type byBytes func(b []byte) ([]byte, api.Errno)

// called holds what a call answers: bytes, or an error and none.
func called(t *testing.T, call byBytes, b, want []byte, wantErr api.Errno) {
	t.Helper()
	was := bytes.Clone(b)
	got, e := call(b)
	if e != wantErr || !bytes.Equal(got, want) {
		t.Fatalf("of %x: got %x, %v, want %x, %v", was, got, e, want, wantErr)
	}
	if !bytes.Equal(b, was) {
		t.Fatalf("%x was changed to %x", was, b)
	}
}

func TestP11_4CallAdd(t *testing.T) {
	d := draw(41)
	all := points(d, 6)
	for _, p := range all[1:] {
		all = append(all, turned(p))
	}
	for _, p := range all {
		for _, q := range all {
			b := append(pointBytes(p), pointBytes(q)...)
			want := pointBytes(narrow(toldSum(wide(p), wide(q))))
			called(t, pairing.CallAdd, b, want, api.OK)
			called(t, pairing.CallAdd, append(b, byte(d.Uint32()), 1, 0), want, api.OK)
		}
	}
}

func TestP11_4CallMul(t *testing.T) {
	d := draw(42)
	all := points(d, 3)
	for _, k := range numbers(d, 10) {
		p := pick(d, all)
		b := append(pointBytes(p), written(k)...)
		want := pointBytes(narrow(toldTimes(toBig(k), wide(p))))
		called(t, pairing.CallMul, b, want, api.OK)
		called(t, pairing.CallMul, append(b, byte(d.Uint32()), 1, 0), want, api.OK)
	}
}

// What is too short has noughts behind it: the second point may be None, a number be any times 256.
func TestP11_4Filled(t *testing.T) {
	d := draw(43)
	p := lifted(d)
	start := pointBytes(p)
	called(t, pairing.CallAdd, nil, make([]byte, 64), api.OK)
	called(t, pairing.CallMul, nil, make([]byte, 64), api.OK)
	called(t, pairing.CallAdd, start, start, api.OK)
	called(t, pairing.CallMul, start, make([]byte, 64), api.OK)
	for size := range 33 {
		k := written(drawn(d))[:size]
		whole := new(big.Int).SetBytes(append(slices.Clone(k), make([]byte, 32-size)...))
		want := pointBytes(narrow(toldTimes(whole, wide(p))))
		called(t, pairing.CallMul, append(slices.Clone(start), k...), want, api.OK)
	}
	for _, size := range []int{1, 31, 32, 63, 64, 100, 128, 5000} {
		nought := make([]byte, size)
		called(t, pairing.CallAdd, nought, make([]byte, 64), api.OK)
		called(t, pairing.CallMul, nought, make([]byte, 64), api.OK)
		called(t, pairing.CallAdd, append(slices.Clone(start), nought...), start, api.OK)
	}
	// 1 and a Y of 2, of which the last byte is cut off, is no point; with noughts ahead of the 2 it is one.
	base := written(word.Of(1), word.Of(2))
	called(t, pairing.CallAdd, base[:63], nil, api.ErrCurve)
	called(t, pairing.CallMul, base[:63], nil, api.ErrCurve)
	called(t, pairing.CallAdd, append(slices.Clone(start), base[:63]...), nil, api.ErrCurve)
	called(t, pairing.CallMul, base[:64], make([]byte, 64), api.OK)
	called(t, pairing.CallAdd, base[:1], make([]byte, 64), api.OK)
}

// Points whose last bytes are noughts may lack them.
func TestP11_4FilledPoint(t *testing.T) {
	p := endingInNought(draw(44))
	b := append(pointBytes(level()[1]), pointBytes(p)...)
	same(t, "the last byte", b[127], 0)
	want := pointBytes(narrow(toldSum(wide(level()[1]), wide(p))))
	called(t, pairing.CallAdd, b[:127], want, api.OK)
	called(t, pairing.CallAdd, b, want, api.OK)
	called(t, pairing.CallMul, b[64:127], make([]byte, 64), api.OK)
}

// endingInNought is a point whose Y ends in a byte that is nought.
func endingInNought(d *rand.Rand) api.Point {
	for {
		if p := lifted(d); p.Y[0]%256 == 0 {
			return p
		}
	}
}

func TestP11_4Refused(t *testing.T) {
	d := draw(45)
	good := pointBytes(lifted(d))
	for _, p := range strangers(d) {
		b := written(p.X, p.Y)
		if p == (api.Point{}) {
			continue // by bytes that is None
		}
		called(t, pairing.CallAdd, append(slices.Clone(b), good...), nil, api.ErrCurve)
		called(t, pairing.CallAdd, append(slices.Clone(good), b...), nil, api.ErrCurve)
		called(t, pairing.CallAdd, append(slices.Clone(b), b...), nil, api.ErrCurve)
		called(t, pairing.CallAdd, b, nil, api.ErrCurve)
		called(t, pairing.CallMul, b, nil, api.ErrCurve)
		called(t, pairing.CallMul, append(slices.Clone(b), good...), nil, api.ErrCurve)
	}
}

// truth is 32 bytes, the last one 1, if it is so.
func truth(is bool) []byte {
	out := make([]byte, 32)
	if is {
		out[31] = 1
	}
	return out
}

func TestP11_4CallPair(t *testing.T) {
	d := draw(46)
	called(t, pairing.CallPair, nil, truth(true), api.OK)
	called(t, pairing.CallPair, []byte{}, truth(true), api.OK)
	for _, count := range []int{1, 2, 3, 16} {
		l, m := closed(d, count)
		called(t, pairing.CallPair, pairBytes(l, m), truth(true), api.OK)
		l[count/2] = lifted(d)
		called(t, pairing.CallPair, pairBytes(l, m), truth(false), api.OK)
	}
	for count := 1; count <= 16; count++ {
		called(t, pairing.CallPair, make([]byte, 192*count), truth(true), api.OK)
	}
	l, m := closed(d, 2)
	l, m = slices.Insert(l, 1, none(), lifted(d)), slices.Insert(m, 1, twists(d, 1)[2], noTwist())
	called(t, pairing.CallPair, pairBytes(l, m), truth(true), api.OK)
}

// Pinned bytes: the bases, and the first one turned about and the second one's.
func TestP11_4CallPairAnswers(t *testing.T) {
	const base, other = "1 2", "1 30644e72e131a029b85045b68181585d97816a916871ca8d3c208c16d87cfd45"
	const twist = "198e9393920d483a7260bfb731fb5d25f1aa493335a9e71297e485b7aef312c2 1800deef121f1e76426a00665e5c4479674322d4f75edadd46debd5cd992f6ed" +
		" 090689d0585ff075ec9e99ad690c3395bc4b313370b38ef355acdadcd122975b 12c85ea5db8c6deb4aab71808dcb408fe3d1e7690c43d37b4ce6cc0166fa7daa"
	read := func(text ...string) []byte { return written(words(strings.Join(text, " "))...) }
	called(t, pairing.CallPair, read(base, twist), truth(false), api.OK)
	called(t, pairing.CallPair, read(other, twist), truth(false), api.OK)
	called(t, pairing.CallPair, read(base, twist, other, twist), truth(true), api.OK)
	called(t, pairing.CallPair, read(other, twist, base, twist), truth(true), api.OK)
	called(t, pairing.CallPair, read(base, twist, base, twist), truth(false), api.OK)
}

func TestP11_4CallPairForm(t *testing.T) {
	l, m := closed(draw(47), 2)
	b := pairBytes(l, m)
	for size := range len(b) {
		if size%192 != 0 {
			called(t, pairing.CallPair, b[:size], nil, api.ErrForm)
		}
	}
	for _, size := range []int{385, 16*192 - 1, 16*192 + 1, 17*192 + 1, 17*192 - 1, 100001} {
		called(t, pairing.CallPair, make([]byte, size), nil, api.ErrForm)
	}
	for _, size := range []int{17, 18, 32, 1000} {
		called(t, pairing.CallPair, make([]byte, 192*size), nil, api.ErrLong)
	}
	full := bytes.Repeat([]byte{0xff}, 192*18)
	called(t, pairing.CallPair, full[:192*16], nil, api.ErrCurve)
	called(t, pairing.CallPair, full[:192*17], nil, api.ErrLong)
	called(t, pairing.CallPair, full[:192*17+5], nil, api.ErrForm)
}

func TestP11_4CallPairRefused(t *testing.T) {
	d := draw(48)
	p, q := pairing.Base()
	for i, strange := range strangers(d) {
		if strange != (api.Point{}) {
			l := []api.Point{none(), none()}
			l[i%2] = strange
			called(t, pairing.CallPair, pairBytes(l, []api.Twist{noTwist(), noTwist()}), nil, api.ErrCurve)
			called(t, pairing.CallPair, pairBytes([]api.Point{strange}, []api.Twist{q}), nil, api.ErrCurve)
		}
	}
	for i, strange := range strangeTwists(d) {
		if strange != (api.Twist{}) {
			m := []api.Twist{noTwist(), noTwist()}
			m[i%2] = strange
			called(t, pairing.CallPair, pairBytes([]api.Point{none(), none()}, m), nil, api.ErrCurve)
			called(t, pairing.CallPair, pairBytes([]api.Point{p}, []api.Twist{strange}), nil, api.ErrCurve)
		}
	}
	// The parts of 1 ahead of those of i make no point of the twist.
	swapped := append(written(p.X, p.Y), written(q.X[0], q.X[1], q.Y[0], q.Y[1])...)
	called(t, pairing.CallPair, swapped, nil, api.ErrCurve)
}

// An answer is new memory each time, and what is handed in plays no part in it any more.
func TestP11_4Memory(t *testing.T) {
	p, q := pairing.Base()
	for _, x := range []struct {
		call byBytes
		b    []byte
	}{
		{pairing.CallAdd, append(pointBytes(p), pointBytes(p)...)},
		{pairing.CallMul, append(pointBytes(p), written(word.Of(3))...)},
		{pairing.CallPair, pairBytes([]api.Point{p, turned(p)}, []api.Twist{q, q})},
	} {
		room := append(slices.Clone(x.b), bytes.Repeat([]byte{0xaa}, 300)...)
		was := slices.Clone(room)
		got, _ := x.call(room[:len(x.b)])
		want := bytes.Clone(got)
		if !bytes.Equal(room, was) {
			t.Fatalf("the bytes, or the room behind them, were changed: %x, were %x", room, was)
		}
		clear(got[:cap(got)])
		clear(room)
		again, e := x.call(was[:len(x.b)])
		if e != api.OK || !bytes.Equal(again, want) {
			t.Fatalf("once more: got %x, %v, want %x", again, e, want)
		}
	}
}

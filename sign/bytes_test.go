package sign_test

import (
	"bytes"
	"math"
	"testing"

	"bailiwick/api"
	"bailiwick/sign"
	"bailiwick/word"
)

func TestP9_6Pack(t *testing.T) {
	d := draw(51)
	l := append(keys(d, 20), outer()[:8]...)
	for range 100 {
		s := api.Sig{R: pick(d, l), S: pick(d, l), V: d.IntN(2)}
		var want [65]byte
		toBig(s.R).FillBytes(want[:32])
		toBig(s.S).FillBytes(want[32:64])
		want[64] = byte(s.V)
		same(t, "Pack", sign.Pack(s), want, s)
	}
	got := sign.Pack(api.Sig{R: word.Of(0x0102), S: word.Of(0x0304), V: 1})
	same(t, "the bytes of a small R", [3]byte(got[29:32]), [3]byte{0, 1, 2})
	same(t, "the bytes of a small S", [3]byte(got[61:64]), [3]byte{0, 3, 4})
	same(t, "the byte of V", got[64], 1)
}

func TestP9_6PackOtherV(t *testing.T) {
	for _, x := range []struct {
		v    int
		want byte
	}{
		{2, 2}, {27, 27}, {127, 127}, {128, 128}, {255, 255}, {256, 0}, {257, 1}, {511, 255}, {-1, 255}, {-2, 254}, {-255, 1}, {-256, 0},
		{1 << 32, 0}, {1<<40 + 7, 7}, {math.MaxInt, 255}, {math.MinInt, 0}, {math.MinInt + 3, 3},
	} {
		s := api.Sig{R: word.Of(1), S: word.Of(2), V: x.v}
		got := sign.Pack(s)
		same(t, "the last byte of Pack", got[64], x.want, x.v)
		s.V = 0
		want := sign.Pack(s)
		same(t, "the bytes ahead of it", [64]byte(got[:64]), [64]byte(want[:64]), x.v)
	}
}

// unpacked is what the call answers for 65 bytes.
func unpacked(t *testing.T, b []byte) api.Sig {
	t.Helper()
	s, e := sign.Unpack(b)
	same(t, "Unpack's error", e, api.OK, b)
	return s
}

func TestP9_6Unpack(t *testing.T) {
	d := draw(52)
	l := append(keys(d, 20), outer()[:8]...)
	for v := range 256 {
		s := api.Sig{R: pick(d, l), S: pick(d, l), V: v}
		b := sign.Pack(s)
		same(t, "Unpack of Pack", unpacked(t, b[:]), s, s)
	}
	for range 100 {
		var b [65]byte
		for i := range b {
			b[i] = byte(d.Uint64())
		}
		s := unpacked(t, b[:])
		same(t, "Pack of Unpack", sign.Pack(s), b)
		same(t, "R", s.R, word.From(b[:32]), b)
		same(t, "S", s.S, word.From(b[32:64]), b)
		same(t, "V", s.V, int(b[64]), b)
	}
}

func TestP9_6UnpackRefused(t *testing.T) {
	for n := range 200 {
		for _, b := range [][]byte{make([]byte, n), bytes.Repeat([]byte{1}, n), append(make([]byte, 0, 300), make([]byte, n)...)} {
			s, e := sign.Unpack(b)
			want := api.ErrForm
			if n == 65 {
				want = api.OK
			}
			same(t, "Unpack's error", e, want, n)
			if n != 65 {
				same(t, "Unpack", s, api.Sig{}, n)
			}
		}
	}
	s, e := sign.Unpack(nil)
	same(t, "Unpack's error", e, api.ErrForm)
	same(t, "Unpack", s, api.Sig{})
}

// The bytes that are handed in are not changed, nor is the room behind them, nor are they kept.
func TestP9_6UnpackMemory(t *testing.T) {
	d := draw(53)
	room := make([]byte, 100)
	for i := range room {
		room[i] = byte(d.Uint64())
	}
	before := bytes.Clone(room)
	s := unpacked(t, room[:65])
	same(t, "whether the bytes are as they were", bytes.Equal(room, before), true)
	clear(room)
	same(t, "Pack of Unpack", sign.Pack(s), [65]byte(before[:65]))
}

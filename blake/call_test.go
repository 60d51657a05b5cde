package blake_test

import (
	"bytes"
	"encoding/hex"
	"math"
	"slices"
	"strings"
	"testing"

	"bailiwick/api"
	"bailiwick/blake"
)

// called is what Call answers, as text; it holds that it answers 64 bytes.
func called(t *testing.T, b []byte) string {
	t.Helper()
	out, e := blake.Call(b)
	if e != api.OK || len(out) != 64 {
		t.Fatalf("Call of %x: got %d bytes and %v", b, len(out), e)
	}
	return hex.EncodeToString(out)
}

// refused holds that Call answers none and ErrForm.
func refused(t *testing.T, b []byte) {
	t.Helper()
	if out, e := blake.Call(b); len(out) != 0 || e != api.ErrForm {
		t.Fatalf("Call of %x (%d bytes): got %x and %v", b, len(b), out, e)
	}
}

// What EIP-152 gives as examples, but with at most 2^16 rounds.
func TestP6_2Examples(t *testing.T) {
	behind := "48c9bdf267e6096a3ba7ca8485ae67bb2bf894fe72f36e3cf1361d5f3af54fa5d182e6ad7f520e511f6c3e2b8c68059b6bbd41fbabd9831f79217e1319cde05b" +
		"616263" + strings.Repeat("00", 125) + "0300000000000000" + "0000000000000000"
	for _, x := range []struct{ rounds, last, want string }{
		{"0000000c", "01", "ba80a53f981c4d0d6a2797b69f12f6e94c212f14685ac4b74b12bb6fdbffa2d17d87c5392aab792dc252d5de4533cc9518d38aa8dbf1925ab92386edd4009923"},
		{"0000000c", "00", "75ab69d3190a562c51aef8d88f1c2775876944407270c42c9844252c26d2875298743e7f6d5ea2f2d3e8d226039cd31b4e426ac4f2d3d666a610c2116fde4735"},
		{"00000000", "01", "08c9bcf367e6096a3ba7ca8485ae67bb2bf894fe72f36e3cf1361d5f3af54fa5d282e6ad7f520e511f6c3e2b8c68059b9442be0454267ce079217e1319cde05b"},
		{"00000001", "01", "b63a380cb2897d521994a85234ee2c181b5f844d2c624c002677e9703449d2fba551b3a8333bcdf5f2f7e08993d53923de3d64fcc68c034e717b9293fed7a421"},
		{"00010000", "01", "e2ebda63cc31d33d50e4ead2fc13872e79e0097e29905bc321a0a5fdc8ac483ef7664d7ebf3502a219b7976189718fc9b4883088f2c9260da139be3b5a27e2fd"},
		{"ffffffff", "01", "e2ebda63cc31d33d50e4ead2fc13872e79e0097e29905bc321a0a5fdc8ac483ef7664d7ebf3502a219b7976189718fc9b4883088f2c9260da139be3b5a27e2fd"},
	} {
		b, err := hex.DecodeString(x.rounds + behind + x.last)
		if err != nil {
			t.Fatal(err)
		}
		same(t, "Call", called(t, b), x.want, x.rounds, x.last)
	}
	if got := called(t, written(abc())); !strings.HasPrefix(got, "ba80a53f981c4d0d") {
		t.Fatalf("Call of rounds 12, \"abc\": got %s", got)
	}
}

func TestP6_2EachLength(t *testing.T) {
	refused(t, nil)
	for _, last := range []byte{0, 1} {
		for n := range 700 {
			if n == 213 {
				continue
			}
			refused(t, bytes.Repeat([]byte{last}, n))
			b := append(written(rising()), make([]byte, 700)...)[:n]
			if n > 0 {
				b[n-1] = last
			}
			refused(t, b)
		}
		for _, n := range []int{1<<8 + 213, 1<<16 + 213, 1<<20 - 1, 1<<20 + 213} {
			refused(t, bytes.Repeat([]byte{last}, n))
		}
	}
}

// What has room for 213 bytes is refused if it has fewer, and a part of more is taken.
func TestP6_2LengthNotRoom(t *testing.T) {
	b := roomy(written(abc()))
	want := called(t, b)
	refused(t, b[:212])
	refused(t, b[:214])
	refused(t, b[1:])
	long := slices.Concat([]byte{7}, b, []byte{8, 9})
	same(t, "Call", called(t, long[1:214]), want)
}

func TestP6_2EachLastByte(t *testing.T) {
	for _, x := range []given{{}, abc(), rising(), ones()} {
		b := written(x)
		for last := range 256 {
			b[212] = byte(last)
			if last > 1 {
				refused(t, b)
				continue
			}
			x.last = last == 1
			want := told(x)
			same(t, "Call", called(t, b), digits(want), x)
		}
	}
	refused(t, bytes.Repeat([]byte{0xff}, 213))
}

// Of the rounds the highest byte is first.
func TestP6_2Rounds(t *testing.T) {
	for _, rounds := range []uint32{0, 1, 2, 10, 12, 127, 128, 255, 256, 257, 0x0102, 0x0201, 0x1000, 0x8000, 0xff00, 0xffff} {
		x := rising()
		x.rounds = rounds
		same(t, "Call", called(t, written(x)), digits(told(x)), x)
	}
	most := rising()
	most.rounds = 1 << 16
	want := digits(told(most))
	for _, rounds := range []uint32{1 << 16, 1<<16 + 1, 0x01000000, 0x0c000000, 1 << 31, math.MaxUint32} {
		x := rising()
		x.rounds = rounds
		same(t, "Call", called(t, written(x)), want, x)
	}
}

// Of all other numbers the lowest byte is first.
func TestP6_2EachBit(t *testing.T) {
	for _, x := range []given{{rounds: 1}, abc(), ones()} {
		b := written(x)
		for bit := range allBits {
			x.flip(bit)
			b[4+bit/8] ^= 1 << (bit % 8)
			same(t, "Call", called(t, b), digits(told(x)), x)
			x.flip(bit)
			b[4+bit/8] ^= 1 << (bit % 8)
		}
	}
}

func TestP6_2AsF(t *testing.T) {
	d := draw(10)
	for range 1000 {
		for _, x := range []given{drawn(d), drawnAtEnds(d)} {
			same(t, "Call", called(t, written(x)), digits(x.f()), x)
		}
	}
}

func TestP6_2ArgumentStays(t *testing.T) {
	d := draw(11)
	for n := range 220 {
		b := roomy(counted(n))
		kept := slices.Clone(b[:cap(b)])
		blake.Call(b)
		if !bytes.Equal(b[:cap(b)], kept) {
			t.Fatalf("Call of %d bytes changed what was handed in", n)
		}
	}
	for range 200 {
		b := roomy(written(drawn(d)))
		kept := slices.Clone(b[:cap(b)])
		first := called(t, b)
		if !bytes.Equal(b[:cap(b)], kept) {
			t.Fatalf("Call of %x changed what was handed in", kept)
		}
		same(t, "Call again", called(t, b), first)
		scribble(b[len(b):])
		same(t, "Call with other spare room", called(t, b), first)
	}
}

// What is answered is neither what was handed in nor what is answered the next time.
func TestP6_2NewMemory(t *testing.T) {
	for _, x := range []given{{}, abc(), rising(), ones()} {
		b := roomy(written(x))
		kept := slices.Clone(b[:cap(b)])
		one, _ := blake.Call(b)
		two, _ := blake.Call(b)
		want := digits(told(x))
		scribble(one)
		same(t, "Call's other answer", hex.EncodeToString(two), want, x)
		same(t, "Call again", called(t, b), want, x)
		if !bytes.Equal(b[:cap(b)], kept) {
			t.Fatalf("what was handed to Call changed with its answer")
		}
		scribble(b)
		same(t, "Call's answer behind a change of what was handed in", hex.EncodeToString(two), want, x)
	}
}

// What was asked ahead, refused or not, plays no part.
func TestP6_2NothingKept(t *testing.T) {
	d := draw(12)
	for range 200 {
		x, other := drawn(d), written(drawn(d))
		called(t, other)
		refused(t, other[:d.IntN(213)])
		same(t, "Call", called(t, written(x)), digits(told(x)), x)
	}
}

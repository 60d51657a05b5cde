package keccak_test

import (
	"bytes"
	"slices"
	"strings"
	"testing"

	"bailiwick/api"
	"bailiwick/keccak"
)

func TestP3_2NoBytes(t *testing.T) {
	want := hash(t, "c5d2460186f7233c927e7db2dcc703c0e500b653ca82273b7bfad8045d85a470")
	same(t, "Sum", keccak.Sum(nil), want, "nil")
	same(t, "Sum", keccak.Sum([]byte{}), want, "an empty list")
	same(t, "Sum", keccak.Sum(roomy(nil)), want, "an empty list with spare room")
}

func TestP3_2Answers(t *testing.T) {
	for _, x := range []struct{ of, want string }{
		{"abc", "4e03657aea45a94fc7d47ba826c8d667c0d1e6e33a64a036ec44f58fa12d6c45"},
		{"\x80", "56e81f171bcc55a6ff8345e692c0f86e5b48e01b996cadc001622fb5e363b421"},
		{"\xc0", "1dcc4de8dec75d7aab85b567b6ccd41ad312451b948a7413f0a142fd40d49347"},
		{"transfer(address,uint256)", "a9059cbb2ab09eb219583f4a59a5d0623ade346d962bcd4e46b11da047c9049b"},
		{"The quick brown fox jumps over the lazy dog", "4d741b6f1eb29cb2a9b9911c82f56fa8d73b04959d3d9d222895df6c0b28aa15"},
		{strings.Repeat("\x00", 32), "290decd9548b62a8d60345a988386fc84ba6bc95484008f6362f93160ef3e563"},
		{strings.Repeat("\x00", 64), "ad3228b676f7d3cd4284a5443f17f1962b36e491b30a40b2405849e597ba5fb5"},
	} {
		same(t, "Sum", keccak.Sum([]byte(x.of)), hash(t, x.want), x.of)
	}
}

func TestP3_2RoundTheEdges(t *testing.T) {
	for _, x := range []struct {
		n    int
		want string
	}{
		{1, "bc36789e7a1e281436464229828f817d6612f7b477d66591ff96a9e064bcc98a"},
		{8, "59e7c99f6be4fd053d7c99f54e371304a33213473dc41f1825b7f3ceb33841a6"},
		{134, "861e165162f806cd361c4421a48f205820ddf4deb02db9f041f48e179ddada97"},
		{135, "cbdfd9dee5faad3818d6b06f95a219fd290b0e1706f6a82e5a595b9ce9faca62"},
		{136, "7ce759f1ab7f9ce437719970c26b0a66ff11fe3e38e17df89cf5d29c7d7f807e"},
		{137, "ac73d4fae68b8453f764007c1a20ce95994187861f0c3227a3a8e99a73a3b1db"},
		{138, "9dff24f078dfc5f2858894ee1f79728c3e4be850a0fccc5929bba850ca98efa1"},
		{270, "1e30174e493ae0f19d897735864772544ad00019213ffb21ec1d6df751fd3fda"},
		{271, "27eceb59ebc3dc8a04a5b135be641591a7278540e4556a2ba9f408194e666ec3"},
		{272, "8e2476e65823b24d96ebe239f2c1534cdf763e689e2410c3b1cb0c74e6177bfc"},
		{273, "3f02f134370e4debb95140ef49ddd3aed8c65ff1ed83a43f1b269421f179c5f9"},
		{407, "be1d82cc504f5c420025f3c4a4a5319fd075cc4645449b789ee84377787bb43c"},
		{408, "2fa03dab557315e48395073815c6aefeb1e78b5f750fa85b623ab3a1f1d988a1"},
		{409, "0ff7e0419de009e67c976466d11b9639e5c174c4c46bab0586c04c9440edf088"},
		{1000, "af692982e84a5a9688359025660a7857cd28ee7c8d867cfa1677baf2e6d1f63b"},
		{4096, "154a932bb08a718880807903c8724a2e293271f249bd8d7017eb0e9b456a218d"},
	} {
		same(t, "Sum", keccak.Sum(counted(x.n)), hash(t, x.want), x.n)
	}
}

func TestP3_2EachLength(t *testing.T) {
	d := draw(2)
	for n := range 700 {
		drawn := make([]byte, n)
		for i := range drawn {
			drawn[i] = byte(d.Uint32())
		}
		for _, b := range [][]byte{drawn, make([]byte, n), bytes.Repeat([]byte{0xff}, n), bytes.Repeat([]byte{0x80}, n), bytes.Repeat([]byte{0x01}, n)} {
			same(t, "Sum", keccak.Sum(b), hashed(b, 0x01, permuted), n)
		}
	}
}

func TestP3_2Long(t *testing.T) {
	b := counted(1<<20 + 77)
	same(t, "Sum", keccak.Sum(b), hashed(b, 0x01, permuted), len(b))
}

// What stands behind a text is not taken for a part of it.
func TestP3_2EndsDiffer(t *testing.T) {
	from := map[api.Hash]string{}
	for n := range 300 {
		for _, end := range []string{"", "\x01", "\x01\x00", "\x01\x80", "\x80", "\x81"} {
			text := strings.Repeat("\x00", n) + end
			sum := keccak.Sum([]byte(text))
			if other, there := from[sum]; there && other != text {
				t.Fatalf("%x and %x have one hash", text, other)
			}
			from[sum] = text
		}
	}
}

func TestP3_2ArgumentStays(t *testing.T) {
	for _, n := range []int{0, 1, 135, 136, 137, 271, 272, 300} {
		b := roomy(counted(n))
		kept := slices.Clone(b[:cap(b)])
		first := keccak.Sum(b)
		if !bytes.Equal(b[:cap(b)], kept) {
			t.Fatalf("Sum of %d bytes changed what was handed in", n)
		}
		same(t, "Sum again", keccak.Sum(b), first, n)
		scribble(b[len(b):])
		same(t, "Sum with other spare room", keccak.Sum(b), first, n)
	}
}

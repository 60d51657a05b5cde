package ripemd_test

import (
	"bytes"
	"slices"
	"strconv"
	"strings"
	"testing"

	"bailiwick/ripemd"
)

func TestP5_1NoBytes(t *testing.T) {
	want := hash(t, "9c1185a5c5e9fc54612808977ee8f548b2258d31")
	same(t, "Sum", ripemd.Sum(nil), want, "nil")
	same(t, "Sum", ripemd.Sum([]byte{}), want, "an empty list")
	same(t, "Sum", ripemd.Sum(roomy(nil)), want, "an empty list with spare room")
}

func TestP5_1Answers(t *testing.T) {
	for _, x := range []struct{ of, want string }{
		{"", "9c1185a5c5e9fc54612808977ee8f548b2258d31"},
		{"a", "0bdc9d2d256b3ee9daae347be6f4dc835a467ffe"},
		{"abc", "8eb208f7e05d987a9b044a8e98c6b087f15a0bfc"},
		{"\x80", "b436441e6bb882fe0a0fa0320cb2d97d96b4d1bc"},
		{"message digest", "5d0689ef49d2fae572b881b123a85ffa21595f36"},
		{"abcdefghijklmnopqrstuvwxyz", "f71c27109c692c1b56bbdceb5b9d2865b3708dbc"},
		{"The quick brown fox jumps over the lazy dog", "37f332f68db77bd9d7edd4969571ad671cf9dd3b"},
		{"abcdbcdecdefdefgefghfghighijhijkijkljklmklmnlmnomnopnopq", "12a053384a9c0c88e405a06c27dcf49ada62eb2b"},
		{"ABCDEFGHIJKLMNOPQRSTUVWXYZabcdefghijklmnopqrstuvwxyz0123456789", "b0e20b6e3116640286ed3a87a5713079b21f5189"},
		{strings.Repeat("1234567890", 8), "9b752e45573d4b39f4dbd3323cab82bf63326bfb"},
		{strings.Repeat("\x00", 32), "d1a70126ff7a149ca6f9b638db084480440ff842"},
		{strings.Repeat("\x00", 64), "9b8ccc2f374ae313a914763cc9cdfb47bfe1c229"},
		{strings.Repeat("\xff", 64), "8f84cbb3ef603413397da31ede727e106de64a49"},
		{strings.Repeat("a", 1000000), "52783243c1697bdbe16d37f97f68f08325dc1528"},
	} {
		same(t, "Sum", ripemd.Sum([]byte(x.of)), hash(t, x.want), x.of)
		same(t, "the chapter's words", hashed([]byte(x.of)), hash(t, x.want), x.of)
	}
}

func TestP5_1RoundTheEdges(t *testing.T) {
	for _, x := range []struct {
		n    int
		want string
	}{
		{1, "c81b94933420221a7ac004a90242d8b1d3e5070d"},
		{3, "6d8d360567ac2cc8c4ec11deede0adcacdda388a"},
		{54, "ecab85ca0c2aabf18f5359f94aad7578a08ab5ef"},
		{55, "3c86963b3ff646a65ae42996e9664c747cc7e5e6"},
		{56, "ebdd79cfd4fd9949ef8089673d2620427f487cfb"},
		{57, "635b0d05be254d82503a9e1db7647dd1b5d5d6bf"},
		{62, "ad1caefc7abdc90e7877d376957532b7d91d7434"},
		{63, "6d31d3d634b4a7aa15914c239576eb1956f2d9a4"},
		{64, "2581f5e9f957b44b0fa24d31996de47409dd1e0f"},
		{65, "109949b95341eeea7365e8ac4d0d3883d98f709a"},
		{118, "a834797b79dbb564ae587003ec4b74914a1580c5"},
		{119, "ad430b4283203a7b7f338b9d252dfdbf807402bf"},
		{120, "b89cdc109009f1982c8b34fca446953584d3f6c4"},
		{121, "8030cc5a4f55566958a5bfca97cb6f40b9c19279"},
		{127, "2be8e565e24a87171f0700ecafa3c2942c97023e"},
		{128, "7c4d36070c1e1176b2960a1b0dd2319d547cf8eb"},
		{129, "1f15f104f445db8ef02bb601a67e60c373377fa6"},
		{183, "f1ed66be7a22399ff2975b68d197a9ea0a18aa30"},
		{184, "b6dbe608421d9786ee34b70467882b9f0f43f81f"},
		{191, "48adcc0aeead4a8cc82ea5ebaf516a7bdf9089b9"},
		{192, "a2a402135b1e763740e232dd958b3b48a8edbc99"},
		{193, "4105bc936a689f41be668a0c273fb4bf54ab4b2a"},
		{1000, "6864b0b9f86a879be2680824c81dbce9c5350281"},
		{4096, "52b66d343fe3b8f0ac43bd2d00fc735a632a711a"},
	} {
		same(t, "Sum", ripemd.Sum(counted(x.n)), hash(t, x.want), x.n)
	}
}

func TestP5_1EachLength(t *testing.T) {
	d := draw(3)
	for n := range 400 {
		for _, b := range [][]byte{drawn(d, n), make([]byte, n), bytes.Repeat([]byte{0xff}, n), bytes.Repeat([]byte{0x80}, n)} {
			same(t, "Sum", ripemd.Sum(b), hashed(b), n)
		}
	}
}

// Each bit that is hashed plays its part.
func TestP5_1EachBit(t *testing.T) {
	for _, n := range []int{40, 64, 100} {
		b := counted(n)
		for i := range 8 * n {
			b[i/8] ^= 1 << (i % 8)
			same(t, "Sum", ripemd.Sum(b), hashed(b), n, i)
			b[i/8] ^= 1 << (i % 8)
		}
	}
}

// How many bits there are needs more and more bytes.
func TestP5_1SizeInMoreBytes(t *testing.T) {
	for _, n := range []int{31, 32, 33, 1<<13 - 1, 1 << 13, 1<<13 + 1, 1<<16 + 56, 1<<20 + 77, 1<<21 - 1, 1 << 21} {
		b := counted(n)
		same(t, "Sum", ripemd.Sum(b), hashed(b), n)
	}
}

// How many bits there are needs all of four bytes, or more than these.
func TestP5_1SizeInEightBytes(t *testing.T) {
	if testing.Short() {
		t.Skip("half a gigabyte is hashed")
	}
	b := make([]byte, 1<<29+1)
	for n, want := range map[int]string{
		1 << 28:   "730cca2bafdc7f3d6bd0a304d8890271401b6b3e",
		1 << 29:   "a9d34a6e516f2aa5723f5c3b829180dce1da3fbb",
		1<<29 + 1: "82e97d3b733eea431f15942414f3274e447ff461",
	} {
		t.Run(strconv.Itoa(n), func(t *testing.T) {
			t.Parallel()
			same(t, "Sum", ripemd.Sum(b[:n]), hash(t, want), n, "noughts")
		})
	}
}

// What stands behind a text is not taken for a part of it.
func TestP5_1EndsDiffer(t *testing.T) {
	from := map[[20]byte]string{}
	for n := range 150 {
		for _, end := range []string{"", "\x80", "\x80\x00", "\x01", "\x80" + strings.Repeat("\x00", 61) + "\x08"} {
			text := strings.Repeat("\x00", n) + end
			sum := ripemd.Sum([]byte(text))
			if other, there := from[sum]; there && other != text {
				t.Fatalf("%x and %x have one hash", text, other)
			}
			from[sum] = text
		}
	}
}

func TestP5_1ArgumentStays(t *testing.T) {
	for _, n := range append(edges, 1000) {
		b := roomy(counted(n))
		kept := slices.Clone(b[:cap(b)])
		first := ripemd.Sum(b)
		if !bytes.Equal(b[:cap(b)], kept) {
			t.Fatalf("Sum of %d bytes changed what was handed in", n)
		}
		same(t, "Sum", first, hashed(counted(n)), n)
		same(t, "Sum again", ripemd.Sum(b), first, n)
		scribble(b[len(b):])
		same(t, "Sum with other spare room", ripemd.Sum(b), first, n)
	}
}

// A part of a list is hashed for itself, wherever it lies.
func TestP5_1PartsOfAList(t *testing.T) {
	all := counted(400)
	for _, n := range edges {
		for from := range 70 {
			same(t, "Sum", ripemd.Sum(all[from:from+n]), hashed(slices.Clone(all[from:from+n])), from, n)
		}
	}
}

// What was hashed ahead plays no part.
func TestP5_1NothingKept(t *testing.T) {
	for _, n := range edges {
		for _, ahead := range edges {
			scribbled := counted(ahead)
			ripemd.Sum(scribbled)
			scribble(scribbled)
			same(t, "Sum", ripemd.Sum(counted(n)), hashed(counted(n)), ahead, n)
		}
	}
}

package sha_test

import (
	"bytes"
	"crypto/sha256"
	"slices"
	"strings"
	"testing"

	"bailiwick/api"
	"bailiwick/sha"
)

func TestP4_1NoBytes(t *testing.T) {
	want := hash(t, "e3b0c44298fc1c149afbf4c8996fb92427ae41e4649b934ca495991b7852b855")
	same(t, "Sum", sha.Sum(nil), want, "nil")
	same(t, "Sum", sha.Sum([]byte{}), want, "an empty list")
	same(t, "Sum", sha.Sum(roomy(nil)), want, "an empty list with spare room")
}

func TestP4_1Answers(t *testing.T) {
	for _, x := range []struct{ of, want string }{
		{"", "e3b0c44298fc1c149afbf4c8996fb92427ae41e4649b934ca495991b7852b855"},
		{"abc", "ba7816bf8f01cfea414140de5dae2223b00361a396177a9cb410ff61f20015ad"},
		{"a", "ca978112ca1bbdcafac231b39a23dc4da786eff8147c4e72b9807785afee48bb"},
		{"\xbd", "68325720aabd7c82f30f554b313d0570c95accbb7dc4b5aae11204c08ffe732b"},
		{"\x80", "76be8b528d0075f7aae98d6fa57a6d3c83ae480a8469e668d7b0af968995ac71"},
		{"\xc9\x8c\x8e\x55", "7abc22c0ae5af26ce93dbb94433a0e0b2e119d014f8e7f65bd56c61ccccd9504"},
		{"message digest", "f7846f55cf23e14eebeab5b4e1550cad5b509e3348fbc4efa3a1413d393cb650"},
		{"abcdefghijklmnopqrstuvwxyz", "71c480df93d6ae2f1efad1447c66c9525e316218cf51fc8d9ed832f2daf18b73"},
		{"The quick brown fox jumps over the lazy dog", "d7a8fbb307d7809469ca9abcb0082e4f8d5651e46d3cdb762d02d0bf37c9e592"},
		{"abcdbcdecdefdefgefghfghighijhijkijkljklmklmnlmnomnopnopq", "248d6a61d20638b8e5c026930c3e6039a33ce45964ff2167f6ecedd419db06c1"},
		{strings.Repeat("\x00", 32), "66687aadf862bd776c8fc18b8e9f8e20089714856ee233b3902a591d0d5f2925"},
		{strings.Repeat("\x00", 64), "f5a5fd42d16a20302798ef6ed309979b43003d2320d9f0e8ea9831a92759fb4b"},
		{strings.Repeat("\xff", 64), "8667e718294e9e0df1d30600ba3eeb201f764aad2dad72748643e4a285e1d1f7"},
		{strings.Repeat("a", 1000000), "cdc76e5c9914fb9281a1c7e284d73e67f1809a48a497200e046d39ccc7112cd0"},
	} {
		same(t, "Sum", sha.Sum([]byte(x.of)), hash(t, x.want), x.of)
		same(t, "the chapter's words", hashed([]byte(x.of)), hash(t, x.want), x.of)
	}
}

func TestP4_1RoundTheEdges(t *testing.T) {
	for _, x := range []struct {
		n    int
		want string
	}{
		{1, "6e340b9cffb37a989ca544e6bb780a2c78901d3fb33738768511a30617afa01d"},
		{3, "ae4b3280e56e2faf83f414a6e3dabe9d5fbe18976544c05fed121accb85b53fc"},
		{54, "675f28acc0b90a72d1c3a570fe83ac565555db358cf01826dc8eefb2bf7ca0f3"},
		{55, "463eb28e72f82e0a96c0a4cc53690c571281131f672aa229e0d45ae59b598b59"},
		{56, "da2ae4d6b36748f2a318f23e7ab1dfdf45acdc9d049bd80e59de82a60895f562"},
		{57, "2fe741af801cc238602ac0ec6a7b0c3a8a87c7fc7d7f02a3fe03d1c12eac4d8f"},
		{62, "c89da82cbcd76ddf220e4e9091019b9866ffda72bee30de1effe6c99701a2221"},
		{63, "29af2686fd53374a36b0846694cc342177e428d1647515f078784d69cdb9e488"},
		{64, "fdeab9acf3710362bd2658cdc9a29e8f9c757fcf9811603a8c447cd1d9151108"},
		{65, "4bfd2c8b6f1eec7a2afeb48b934ee4b2694182027e6d0fc075074f2fabb31781"},
		{118, "d32ab00929cb935b79d44e74c5a745db460ff794dea3b79be40c1cc5cf5388ef"},
		{119, "da18797ed7c3a777f0847f429724a2d8cd5138e6ed2895c3fa1a6d39d18f7ec6"},
		{120, "f52b23db1fbb6ded89ef42a23ce0c8922c45f25c50b568a93bf1c075420bbb7c"},
		{121, "335a461692b30bba1d647cc71604e88e676c90e4c22455d0b8c83f4bd7c8ac9b"},
		{127, "92ca0fa6651ee2f97b884b7246a562fa71250fedefe5ebf270d31c546bfea976"},
		{128, "471fb943aa23c511f6f72f8d1652d9c880cfa392ad80503120547703e56a2be5"},
		{129, "5099c6a56203f9687f7d33f4bfdf576d31dc91f6b695ecea38b2770c87631135"},
		{183, "b1459345163aed1c356302a5230f8912564b04f340610b18ef1aa2c47b418981"},
		{184, "82f63a1d007fd9796756abbbf51c246884dde3d79cf9cacacc901462ae75e3ff"},
		{191, "d280f473c251cb75c91880ea0eca2a2f1cda3152bef54a38c4a3aedad615c819"},
		{192, "8b4a544837a1a0280fa8a7c82865c27a1064b3cc6281fda0753566b9bb104a87"},
		{193, "7daafa7aed7d63d06a98b7b6f785eab5427d084f30d5c9ee6dd0d2f3ada329e6"},
		{1000, "4e4c294b331f7a2099a379bec34b9f9fc03dc46ab465d998f4d683da53487e6d"},
		{4096, "d67c656e01756650d77717b0839985a056ec28ffe174601d690fc407a2ceffca"},
	} {
		same(t, "Sum", sha.Sum(counted(x.n)), hash(t, x.want), x.n)
	}
}

func TestP4_1EachLength(t *testing.T) {
	d := draw(1)
	for n := range 400 {
		for _, b := range [][]byte{drawn(d, n), make([]byte, n), bytes.Repeat([]byte{0xff}, n), bytes.Repeat([]byte{0x80}, n)} {
			got := sha.Sum(b)
			same(t, "Sum by the chapter's words", got, hashed(b), n)
			same(t, "Sum by the library", got, sha256.Sum256(b), n)
		}
	}
}

// Each bit of a block plays its part.
func TestP4_1EachBit(t *testing.T) {
	for _, n := range []int{40, 64, 100} {
		b := counted(n)
		for i := range 8 * n {
			b[i/8] ^= 1 << (i % 8)
			same(t, "Sum", sha.Sum(b), hashed(b), n, i)
			b[i/8] ^= 1 << (i % 8)
		}
	}
}

func TestP4_1Long(t *testing.T) {
	b := counted(1<<20 + 77)
	same(t, "Sum", sha.Sum(b), hashed(b), len(b))
}

// How many bits there are does not fit into four bytes.
func TestP4_1SizeInEightBytes(t *testing.T) {
	if testing.Short() {
		t.Skip("half a gigabyte is hashed")
	}
	d := sha.New()
	part := make([]byte, 1<<20)
	for range 511 {
		d.Write(part)
	}
	d.Write(part[1:])
	for _, want := range []string{
		"bf7f45d9df691bd277948d7f124b87a9f76e16ddb5d8fb25a49df939798f0a01",
		"9acca8e8c22201155389f65abbf6bc9723edc7384ead80503839f49dcc56d767",
		"7c40fe5ce847740d0f0d0cdde3949d6585804cdec3ae61a15b923165699c8137",
	} {
		same(t, "Sum", d.Sum(), hash(t, want), "2^29 noughts, or one less or more")
		d.Write(part[:1])
	}
}

// What stands behind a text is not taken for a part of it.
func TestP4_1EndsDiffer(t *testing.T) {
	from := map[api.Hash]string{}
	for n := range 150 {
		for _, end := range []string{"", "\x80", "\x80\x00", "\x01", "\x80" + strings.Repeat("\x00", 61) + "\x08"} {
			text := strings.Repeat("\x00", n) + end
			sum := sha.Sum([]byte(text))
			if other, there := from[sum]; there && other != text {
				t.Fatalf("%x and %x have one hash", text, other)
			}
			from[sum] = text
		}
	}
}

func TestP4_1ArgumentStays(t *testing.T) {
	for _, n := range edges {
		b := roomy(counted(n))
		kept := slices.Clone(b[:cap(b)])
		first := sha.Sum(b)
		if !bytes.Equal(b[:cap(b)], kept) {
			t.Fatalf("Sum of %d bytes changed what was handed in", n)
		}
		same(t, "Sum again", sha.Sum(b), first, n)
		scribble(b[len(b):])
		same(t, "Sum with other spare room", sha.Sum(b), first, n)
	}
}

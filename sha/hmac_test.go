package sha_test

import (
	"bytes"
	"crypto/hmac"
	"crypto/sha256"
	"slices"
	"strings"
	"testing"

	"bailiwick/sha"
)

func TestP4_2HMACAnswers(t *testing.T) {
	for _, x := range []struct{ key, of, want string }{
		{"", "", "b613679a0814d9ec772f95d778c35fc5ff1697c493715653c6c712144292c5ad"},
		{"key", "The quick brown fox jumps over the lazy dog", "f7bc83f430538424b13298e6aa6fb143ef4d59a14946175997479dbc2d1a3cd8"},
		{strings.Repeat("\x0b", 20), "Hi There", "b0344c61d8db38535ca8afceaf0bf12b881dc200c9833da726e9376c2e32cff7"},
		{"Jefe", "what do ya want for nothing?", "5bdcc146bf60754e6a042426089575c75a003f089d2739839dec58b964ec3843"},
		{strings.Repeat("\xaa", 20), strings.Repeat("\xdd", 50), "773ea91e36800e46854db8ebd09181a72959098b3ef8c122d9635514ced565fe"},
		{string(counted(26)[1:]), strings.Repeat("\xcd", 50), "82558a389a443c0ea4cc819899f2083a85f0faa3e578f8077a2e3ff46729665b"},
		{strings.Repeat("\x0c", 20), "Test With Truncation", "a3b6167473100ee06e0c796c2955552bfa6f7c0a6a8aef8b93f860aab0cd20c5"},
		{strings.Repeat("\xaa", 131), "Test Using Larger Than Block-Size Key - Hash Key First", "60e431591ee0b67f0d8a26aacbf5b77f8e0bc6213728c5140546040f0ee37f54"},
		{strings.Repeat("\xaa", 131), "This is a test using a larger than block-size key and a larger than block-size data. The key needs to be hashed before being used by the HMAC algorithm.", "9b09ffa71b942fcb27635fbcd5b0e944bfdc63644f0713938a7f51535c3a35e2"},
	} {
		same(t, "HMAC", sha.HMAC([]byte(x.key), []byte(x.of)), hash(t, x.want), x.key, x.of)
		same(t, "the chapter's words", keyed([]byte(x.key), []byte(x.of)), hash(t, x.want), x.key, x.of)
	}
}

func TestP4_2HMACKeysByLength(t *testing.T) {
	for _, x := range []struct {
		n    int
		want string
	}{
		{0, "0da5d92cccf6bc8e19bf718cc7299a5c4ac87f62d2258662241fd5642759eb03"},
		{31, "de27bb5f1db4493ea64a227f9e6164764553d436e2f86756e34557162b507fa6"},
		{32, "a0b85e511189b13c4dc40f8858eaa1bffef70151918f123454870b49a7bbd512"},
		{33, "8eea953d6379e2cbfdfd815a261ab9a52305dad6e130b553aa56a45bec3dd2a2"},
		{63, "05830d59141b58e273d16624f5ed386b0353bc37f3a9af8504e165d5294ee1a7"},
		{64, "e0fc11a31f1f2b329e227864906e9a8b39de647be9e0a456fe509e8b63f111af"},
		{65, "b111d1e4b6591f801ff7643c4d592adb08869a9686d44f4217b01405b29830e9"},
		{66, "7b2b3886a82cba6524467ccfbbe39146fcb66dfbc4671ad84a3ee9dc0b09432c"},
		{127, "26595c0d3c3b8f276583b957d5e1e946bae2a75a05228b2ca48c52596e42ba75"},
		{128, "14b4cd853dcd5943c296aaade910efc5f85eb6ec3e54d2b24f945495a27208d2"},
		{129, "89c2d84b5584c9e2ba5388a9d82d2f9dc3509d4f57ba96e6e82b44add78b2912"},
		{200, "26d5c8292040e68502b71baef5465fe0dc01a0e000e45e541995fe33b79dab50"},
	} {
		same(t, "HMAC", sha.HMAC(counted(x.n), counted(100)), hash(t, x.want), x.n)
	}
}

func TestP4_2HMACEachKeyLength(t *testing.T) {
	d := draw(2)
	for k := range 200 {
		for _, n := range []int{0, 1, 32, 55, 56, 63, 64, 65, 119, 120, 128, d.IntN(500)} {
			key, b := drawn(d, k), drawn(d, n)
			got := sha.HMAC(key, b)
			same(t, "HMAC by the chapter's words", got, keyed(key, b), k, n)
			by := hmac.New(sha256.New, key)
			by.Write(b)
			same(t, "HMAC by the library", got, [32]byte(by.Sum(nil)), k, n)
		}
	}
}

func TestP4_2HMACOfNothing(t *testing.T) {
	want := hash(t, "b613679a0814d9ec772f95d778c35fc5ff1697c493715653c6c712144292c5ad")
	for _, key := range [][]byte{nil, {}, roomy(nil)} {
		for _, b := range [][]byte{nil, {}, roomy(nil)} {
			same(t, "HMAC", sha.HMAC(key, b), want, "no bytes")
		}
	}
}

// Noughts behind a key play no part till it has more than 64 bytes.
func TestP4_2HMACKeyFilledUp(t *testing.T) {
	for n := range 65 {
		key := counted(n)
		want := sha.HMAC(key, counted(70))
		for size := n; size <= 64; size++ {
			same(t, "HMAC", sha.HMAC(append(counted(n), make([]byte, size-n)...), counted(70)), want, n, size)
		}
		if sha.HMAC(append(counted(n), make([]byte, 65-n)...), counted(70)) == want {
			t.Fatalf("a key of %d bytes, and noughts up to 65: the key is not hashed", n)
		}
	}
}

// A key of more than 64 bytes stands for its hash, one of 64 for itself.
func TestP4_2HMACKeyHashed(t *testing.T) {
	for n := range 300 {
		key := counted(n)
		h := sha.Sum(key)
		got, byHash := sha.HMAC(key, counted(70)), sha.HMAC(h[:], counted(70))
		if (got == byHash) != (n > 64) {
			t.Fatalf("a key of %d bytes: HMAC %x, with its hash as the key %x", n, got, byHash)
		}
	}
}

func TestP4_2HMACArgumentsStay(t *testing.T) {
	for _, k := range edges {
		for _, n := range edges {
			key, b := roomy(counted(k)), roomy(counted(n + 7)[7:])
			keptKey, kept := slices.Clone(key[:cap(key)]), slices.Clone(b[:cap(b)])
			first := sha.HMAC(key, b)
			if !bytes.Equal(key[:cap(key)], keptKey) || !bytes.Equal(b[:cap(b)], kept) {
				t.Fatalf("HMAC of %d and %d bytes changed what was handed in", k, n)
			}
			scribble(key[len(key):])
			scribble(b[len(b):])
			same(t, "HMAC again, with other spare room", sha.HMAC(key, b), first, k, n)
		}
	}
}

// The key and what it is for may lie in one another.
func TestP4_2HMACOfOneList(t *testing.T) {
	for _, n := range edges {
		b := counted(n)
		same(t, "HMAC", sha.HMAC(b, b), keyed(counted(n), counted(n)), n)
		same(t, "HMAC", sha.HMAC(b[n/3:], b[:n/2]), keyed(counted(n)[n/3:], counted(n)[:n/2]), n)
	}
}

package sign_test

import (
	"crypto/sha256"
	"math/big"
	"testing"

	"bailiwick/api"
	"bailiwick/sign"
	"bailiwick/word"
)

// nonce is what the call answers for keys that are allowed.
func nonce(t *testing.T, key api.Word, h api.Hash) api.Word {
	t.Helper()
	k, e := sign.Nonce(key, h)
	same(t, "Nonce's error", e, api.OK, key, h)
	return k
}

func TestP9_2Nonce(t *testing.T) {
	d := draw(11)
	all := keys(d, 60)
	for _, key := range all {
		for _, h := range hashes(d, 10) {
			want, _ := toldNonce(order(), key, h)
			same(t, "Nonce", nonce(t, key, h), fromBig(want), key, h)
		}
	}
}

// Hashes that are the same modulo the order are signed with the same number.
func TestP9_2NonceModulo(t *testing.T) {
	d := draw(12)
	for _, more := range []int64{0, 1, 2, 1000, 1 << 62} {
		key := below(d)
		low, high := api.Hash(word.Bytes(word.Of(uint64(more)))), api.Hash(word.Bytes(beside(more)))
		same(t, "Nonce", nonce(t, key, high), nonce(t, key, low), key, more)
		same(t, "Sign", signed(t, key, high), signed(t, key, low), key, more)
	}
}

func TestP9_2NonceRefused(t *testing.T) {
	h := hash("1da44b586eb0729ff70a73c326926f6ed5a25f5b056e7f47fbc6e58d86871655")
	for _, key := range outer() {
		got, e := sign.Nonce(key, h)
		same(t, "Nonce's error", e, api.ErrArg, key)
		same(t, "Nonce", got, api.Word{}, key)
	}
}

// The curve P-256 has another order, and RFC 6979 has these answers for it.
func TestP9_2NonceOfAnotherOrder(t *testing.T) {
	n := hex("ffffffff00000000ffffffffffffffffbce6faada7179e84f3b9cac2fc632551")
	key := hex("c9afa9d845ba75166b5c215767b1d6934e50c3db36e89b127b8a622b120f6721")
	for _, x := range []struct{ text, want string }{
		{"sample", "a6e3c57dd01abe90086538398355dd4c3b17aa873382b0f24d6129493d8aad60"},
		{"test", "d16b6ae827f17175e040871a1c7ec3500192c4c92677336ec2537acaee0008e0"},
	} {
		sum := sha256.Sum256([]byte(x.text))
		same(t, "a nonce", sign.Drawn(n, key, word.From(sum[:])), hex(x.want), x.text)
	}
}

// Numbers that are too great are thrown away: so they are of curves with a smaller order.
func TestP9_2NonceAgain(t *testing.T) {
	d := draw(13)
	most := 0
	for _, bits := range []uint{255, 254, 252, 250, 248, 247} {
		n := new(big.Int).Lsh(big.NewInt(1), bits)
		n.Sub(n, big.NewInt(int64(d.IntN(1000))))
		for range 20 {
			key, z := drawn(d), drawn(d)
			h := api.Hash(word.Bytes(z))
			want, again := toldNonce(n, key, h)
			same(t, "a nonce", sign.Drawn(fromBig(n), key, fromBig(reduced(h, n))), fromBig(want), n, key, h)
			most = max(most, again)
		}
	}
	if most < 100 {
		t.Fatalf("a number was thrown away %d times at most: that asks too little", most)
	}
}

// A number is thrown away, too, that is just the order: so the first one that is drawn is made the order, or one less.
func TestP9_2NonceOfTheOrder(t *testing.T) {
	d := draw(14)
	for range 40 {
		key, z := drawn(d), drawn(d)
		h := api.Hash(word.Bytes(z))
		all := new(big.Int).Lsh(big.NewInt(1), 256)
		first, _ := toldNonce(all, key, h)
		for _, n := range []*big.Int{first, new(big.Int).Add(first, big.NewInt(1))} {
			rest := fromBig(new(big.Int).SetBytes(h[:]))
			got := sign.Drawn(fromBig(n), key, rest)
			same(t, "whether the number that is the order is drawn", got == fromBig(first), n.Cmp(first) > 0, key, h, n)
		}
	}
}

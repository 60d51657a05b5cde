package sign_test

import (
	"crypto/hmac"
	"crypto/sha256"
	"math/big"

	"bailiwick/api"
	"bailiwick/curve"
	"bailiwick/keccak"
	"bailiwick/word"
)

// What follows tells the chapter's words anew, with numbers of math/big, the library's HMAC, and each sum of points by itself.

// reduced is h's number modulo n.
func reduced(h api.Hash, n *big.Int) *big.Int {
	return new(big.Int).Mod(new(big.Int).SetBytes(h[:]), n)
}

// times is p added k times, by the order's rest of k.
func times(k *big.Int, p api.Point) api.Point {
	out, _ := curve.Mul(fromBig(new(big.Int).Mod(k, order())), p)
	return out
}

// plus is p and q.
func plus(p, q api.Point) api.Point {
	out, _ := curve.Add(p, q)
	return out
}

// by is a by b, modulo the order.
func by(a, b *big.Int) *big.Int {
	out := new(big.Int).ModInverse(b, order())
	return out.Mod(out.Mul(out, a), order())
}

// toldAddress is p's address.
func toldAddress(p api.Point) api.Address {
	x, y := word.Bytes(p.X), word.Bytes(p.Y)
	h := keccak.Sum(append(x[:], y[:]...))
	return api.Address(h[32-20:])
}

// toldNonce is the number that key signs h with, and how often one was thrown away.
func toldNonce(n *big.Int, key api.Word, h api.Hash) (*big.Int, int) {
	code := func(key []byte, b ...byte) []byte {
		mac := hmac.New(sha256.New, key)
		mac.Write(b)
		return mac.Sum(nil)
	}
	x := word.Bytes(key)
	rest := append(x[:], reduced(h, n).FillBytes(make([]byte, 32))...)
	k, v := make([]byte, 32), make([]byte, 32)
	for i := range v {
		v[i] = 1
	}
	k = code(k, append(append(v, 0), rest...)...)
	v = code(k, v...)
	k = code(k, append(append(v, 1), rest...)...)
	v = code(k, v...)
	for again := 0; ; again++ {
		v = code(k, v...)
		found := new(big.Int).SetBytes(v)
		if found.Sign() > 0 && found.Cmp(n) < 0 {
			return found, again
		}
		k = code(k, append(v, 0)...)
		v = code(k, v...)
	}
}

// toldSign is key's signature of h.
func toldSign(key api.Word, h api.Hash) api.Sig {
	k, _ := toldNonce(order(), key, h)
	p := times(k, curve.Base())
	s := new(big.Int).Mul(toBig(p.X), toBig(key))
	s = by(s.Add(s, reduced(h, order())), k)
	odd := p.Y[0]%2 == 1
	if new(big.Int).Lsh(s, 1).Cmp(order()) > 0 {
		s.Sub(order(), s)
		odd = !odd
	}
	out := api.Sig{R: p.X, S: fromBig(s)}
	if odd {
		out.V = 1
	}
	return out
}

// toldVerify tells whether s, whose R and S are allowed, is p's signature of h.
func toldVerify(p api.Point, h api.Hash, s api.Sig) bool {
	z := reduced(h, order())
	q := plus(times(by(z, toBig(s.S)), curve.Base()), times(by(toBig(s.R), toBig(s.S)), p))
	return !q.None && new(big.Int).Mod(toBig(q.X), order()).Cmp(toBig(s.R)) == 0
}

// toldRecover is whose signature of h this is, if R, S and V are allowed, and whether it is anybody's.
func toldRecover(h api.Hash, s api.Sig) (api.Point, bool) {
	p, e := curve.Lift(s.R, s.V == 1)
	if e != api.OK {
		return none(), false
	}
	z := reduced(h, order())
	q := plus(times(by(z.Neg(z), toBig(s.R)), curve.Base()), times(by(toBig(s.S), toBig(s.R)), p))
	return q, !q.None
}

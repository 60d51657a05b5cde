package sign_test

import (
	"math/big"
	"testing"

	"bailiwick/api"
	"bailiwick/curve"
	"bailiwick/sign"
	"bailiwick/word"
)

// other is s with the S that is not low, if its own is, and else with the low one.
func other(s api.Sig) api.Sig {
	s.S = fromBig(new(big.Int).Sub(order(), toBig(s.S)))
	return s
}

func TestP9_4Verify(t *testing.T) {
	d := draw(31)
	all := hashes(d, 40)
	for _, key := range keys(d, 20) {
		h, p := pick(d, all), public(t, key)
		s := signed(t, key, h)
		same(t, "Verify", sign.Verify(p, h, s), true, p, h, s)
		same(t, "Verify of the other S", sign.Verify(p, h, other(s)), true, p, h, s)
		for _, v := range []int{0, 1, 2, -1, 27, 28, 255, 256, 1 << 40} {
			s.V = v
			same(t, "Verify", sign.Verify(p, h, s), true, p, h, s)
		}
	}
}

func TestP9_4VerifyAsTold(t *testing.T) {
	d := draw(32)
	all, l := hashes(d, 20), points(d, 20)
	for range 60 {
		p, h := pick(d, l), pick(d, all)
		s := api.Sig{R: pick(d, inner()), S: pick(d, inner()), V: d.IntN(2)}
		same(t, "Verify", sign.Verify(p, h, s), toldVerify(p, h, s), p, h, s)
	}
}

// flip is a with the bit k the other way.
func flip(a api.Word, k int) api.Word {
	a[k/64] ^= 1 << (k % 64)
	return a
}

// Nothing that is signed may be changed, nor the signature, nor whose it is.
func TestP9_4VerifyChanged(t *testing.T) {
	d := draw(33)
	key, h := below(d), api.Hash(word.Bytes(drawn(d)))
	p, s := public(t, key), signed(t, key, h)
	for k := range 256 {
		changed := h
		changed[k/8] ^= 1 << (k % 8)
		same(t, "Verify", sign.Verify(p, changed, s), false, p, changed, s)
		same(t, "Verify", sign.Verify(p, h, api.Sig{R: flip(s.R, k), S: s.S}), false, p, h, s, k)
		same(t, "Verify", sign.Verify(p, h, api.Sig{R: s.R, S: flip(s.S, k)}), false, p, h, s, k)
		same(t, "Verify", sign.Verify(api.Point{X: flip(p.X, k), Y: p.Y}, h, s), false, p, h, s, k)
		same(t, "Verify", sign.Verify(api.Point{X: p.X, Y: flip(p.Y, k)}, h, s), false, p, h, s, k)
	}
	same(t, "Verify", sign.Verify(p, h, api.Sig{R: s.S, S: s.R}), false, p, h, s)
	negative, _ := curve.Neg(p)
	same(t, "Verify", sign.Verify(negative, h, s), false, p, h, s)
	for _, q := range append(strangers(), points(d, 10)...) {
		same(t, "Verify", sign.Verify(q, h, s), false, q, h, s)
	}
}

// owned is a point whose signature of h this is: any R, a point's X modulo the order, leads to one.
func owned(h api.Hash, r, s api.Word, at api.Point) api.Point {
	z := reduced(h, order())
	return plus(times(by(z.Neg(z), toBig(r)), curve.Base()), times(by(toBig(s), toBig(r)), at))
}

// An R or S is not taken for the rest that it has modulo the order.
func TestP9_4VerifyBeyond(t *testing.T) {
	d := draw(34)
	n := beside(0)
	for range 10 {
		h, more := api.Hash(word.Bytes(drawn(d))), drawn(d)
		p := owned(h, word.Of(1), more, smallX())
		s := api.Sig{R: word.Of(1), S: fromBig(new(big.Int).Mod(toBig(more), order()))}
		same(t, "Verify", sign.Verify(p, h, s), true, p, h, s)
		s.R = word.Add(s.R, n)
		same(t, "Verify of R and the order", sign.Verify(p, h, s), false, p, h, s)
		at := pick(d, points(d, 9))
		small := word.Of(d.Uint64())
		p = owned(h, at.X, small, at)
		s = api.Sig{R: fromBig(new(big.Int).Mod(toBig(at.X), order())), S: small}
		same(t, "Verify", sign.Verify(p, h, s), true, p, h, s)
		s.S = word.Add(s.S, n)
		same(t, "Verify of S and the order", sign.Verify(p, h, s), false, p, h, s)
	}
}

func TestP9_4VerifyOuter(t *testing.T) {
	d := draw(35)
	key, h := below(d), api.Hash(word.Bytes(drawn(d)))
	p, s := public(t, key), signed(t, key, h)
	for _, a := range outer() {
		same(t, "Verify", sign.Verify(p, h, api.Sig{R: a, S: s.S}), false, p, h, a)
		same(t, "Verify", sign.Verify(p, h, api.Sig{R: s.R, S: a}), false, p, h, a)
		same(t, "Verify", sign.Verify(p, h, api.Sig{R: a, S: a}), false, p, h, a)
	}
}

// above are points whose X is the order or more.
func above(t *testing.T) []api.Point {
	t.Helper()
	var out []api.Point
	for x := int64(1); len(out) < 6; x++ {
		p, e := curve.Lift(beside(x), x%2 == 0)
		if e == api.OK {
			out = append(out, p)
		}
	}
	return out
}

// The X of the sum is taken modulo the order: it may have been above.
func TestP9_4VerifyAbove(t *testing.T) {
	d := draw(36)
	for _, at := range above(t) {
		h, s := api.Hash(word.Bytes(drawn(d))), below(d)
		rest := word.Sub(at.X, beside(0))
		p := owned(h, rest, s, at)
		same(t, "Verify", sign.Verify(p, h, api.Sig{R: rest, S: s}), true, p, h, at)
		same(t, "Verify", sign.Verify(p, h, api.Sig{R: at.X, S: s}), false, p, h, at)
	}
}

// If None were a point like others, anybody could sign for it.
func TestP9_4VerifyNone(t *testing.T) {
	d := draw(37)
	for range 10 {
		h, s := api.Hash(word.Bytes(drawn(d))), below(d)
		at := times(by(reduced(h, order()), toBig(s)), curve.Base())
		for _, p := range nones() {
			same(t, "Verify", sign.Verify(p, h, api.Sig{R: at.X, S: s}), false, p, h, s)
		}
	}
	key, h := word.Of(1), api.Hash(word.Bytes(drawn(d)))
	s := signed(t, key, h)
	p := public(t, key)
	same(t, "Verify", sign.Verify(p, h, s), true, p, h, s)
	p.None = true
	same(t, "Verify", sign.Verify(p, h, s), false, p, h, s)
}

// The sum is None, if the key is 0 less z, by R.
func TestP9_4VerifySumNone(t *testing.T) {
	d := draw(38)
	for _, r := range inner() {
		h := api.Hash(word.Bytes(drawn(d)))
		z := reduced(h, order())
		p := times(by(z.Neg(z), toBig(r)), curve.Base())
		s := api.Sig{R: r, S: below(d)}
		same(t, "Verify", sign.Verify(p, h, s), false, p, h, s)
	}
}

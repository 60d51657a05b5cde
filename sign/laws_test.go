package sign_test

import (
	"testing"

	"bailiwick/api"
	"bailiwick/curve"
	"bailiwick/sign"
	"bailiwick/word"
)

// What is signed is low, is verified, and tells whose it is.
func TestP9_7Whose(t *testing.T) {
	d := draw(61)
	all := hashes(d, 30)
	for _, key := range keys(d, 40) {
		h := pick(d, all)
		s, p := signed(t, key, h), public(t, key)
		same(t, "Low", sign.Low(s), true, key, h, s)
		same(t, "Verify", sign.Verify(p, h, s), true, key, h, s)
		recovered(t, h, s, p, api.OK)
		want, _ := sign.Of(key)
		got, _ := sign.Who(h, s)
		same(t, "Who", got, want, key, h, s)
		b := sign.Pack(s)
		same(t, "Unpack of Pack", unpacked(t, b[:]), s, key, h)
	}
}

func TestP9_8AlwaysTheSame(t *testing.T) {
	d := draw(62)
	type made struct {
		key  api.Word
		h    api.Hash
		sig  api.Sig
		by   api.Word
		mark api.Address
	}
	var first []made
	for _, key := range keys(d, 10) {
		h := api.Hash(word.Bytes(drawn(d)))
		who, _ := sign.Of(key)
		first = append(first, made{key, h, signed(t, key, h), nonce(t, key, h), who})
	}
	for range 60 {
		x := pick(d, first)
		sign.Sign(drawn(d), x.h)
		sign.Recover(x.h, api.Sig{R: drawn(d), S: drawn(d)})
		same(t, "Sign once more", signed(t, x.key, x.h), x.sig, x.key, x.h)
		same(t, "Nonce once more", nonce(t, x.key, x.h), x.by, x.key, x.h)
		recovered(t, x.h, x.sig, public(t, x.key), api.OK)
		who, _ := sign.Who(x.h, x.sig)
		same(t, "Who once more", who, x.mark, x.key, x.h)
	}
	for i, x := range first {
		for _, y := range first[:i] {
			same(t, "whether two keys sign with one number", x.by == y.by, false, x.key, y.key)
			same(t, "whether two keys have one address", x.mark == y.mark, false, x.key, y.key)
		}
	}
}

func TestP9_9Verifies(t *testing.T) {
	d := draw(63)
	all, l := hashes(d, 30), keys(d, 60)
	found := 0
	for range 200 {
		h, s := pick(d, all), api.Sig{R: pick(d, l), S: pick(d, l), V: d.IntN(2)}
		p, e := sign.Recover(h, s)
		if e != api.OK {
			continue
		}
		found++
		same(t, "On", curve.On(p) && !p.None, true, h, s)
		same(t, "Verify", sign.Verify(p, h, s), true, p, h, s)
		s.V = 1 - s.V
		q, e := sign.Recover(h, s)
		same(t, "Recover's error of the other V", e, api.OK, h, s)
		same(t, "Verify", sign.Verify(q, h, s), true, q, h, s)
	}
	if found < 50 {
		t.Fatalf("%d of 200 signatures are anybody's", found)
	}
}

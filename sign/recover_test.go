package sign_test

import (
	"math"
	"math/big"
	"testing"

	"bailiwick/api"
	"bailiwick/curve"
	"bailiwick/sign"
	"bailiwick/word"
)

// recovered holds what Recover and Who answer for h and s.
func recovered(t *testing.T, h api.Hash, s api.Sig, want api.Point, error api.Errno) {
	t.Helper()
	p, e := sign.Recover(h, s)
	same(t, "Recover's error", e, error, h, s)
	same(t, "Recover", p, want, h, s)
	a, e := sign.Who(h, s)
	same(t, "Who's error", e, error, h, s)
	var who api.Address
	if error == api.OK {
		who = toldAddress(want)
	}
	same(t, "Who", a, who, h, s)
}

// Pinned answers, made by a second program: a hash, R, S and V; X and Y of whose it is, and the address, if it is anybody's.
func TestP9_5Answers(t *testing.T) {
	for _, x := range []struct {
		hash, r, s string
		v          int
		x, y, who  string
	}{
		{"0000000000000000000000000000000000000000000000000000000000000000", "4", "7fffffffffffffffffffffffffffffff5d576e7357a4501ddfe92f46681b20a0", 1, "e3fc0ea8cb550de838d4e13142eb3786d8e07f93ce9171f024d0956490d8f400", "0cfb40ddba3b2b9930a96b1896396e0cc62451722c96a05ab0686a7e3c022465", "f75453208195b378fbda610e8b6f0dd14ecb2bc6"},
		{"0000000000000000000000000000000000000000000000000000000000000001", "6e98bbc01c26b9c058e1fa75de0c057f163488cbb00e0067c64dd2e190b301ff", "5649b83bd87d8e185daeb168bc6a37110b0410008141df319c72d92c2967c63d", 1, "", "", ""},
		{"fffffffffffffffffffffffffffffffebaaedce6af48a03bbfd25e8cd0364140", "fffffffffffffffffffffffffffffffebaaedce6af48a03bbfd25e8cd036413d", "1", 0, "11a98fe62852657e0a81747c0de8d246b3a68d462eb989dc137b60387465d451", "7a17f9b8bd043a4b9d471d428205e0d73d0c8ab13499a54a8237a250efb3fe29", "532c2f9db2435da7d96f23a894a24d908a35cd59"},
		{"fffffffffffffffffffffffffffffffebaaedce6af48a03bbfd25e8cd0364141", "fffffffffffffffffffffffffffffffebaaedce6af48a03bbfd25e8cd036413f", "d31611b48ee59b5a127941d4ea19d1816bcaea5d0901bc653202a754506f38b", 1, "f88f49c06d9a84e56229ae0eeb99047e8d4dbd0b78a52c90794c1761f01ee1a1", "d82552d6f2f39b78806bdc5cdd96b21141a5d3f7ed08fde297d98011ade6919b", "7220cf9ff2614653dc9f8c0d21433c383617ef4f"},
		{"fffffffffffffffffffffffffffffffebaaedce6af48a03bbfd25e8cd0364142", "fffffffffffffffffffffffffffffffebaaedce6af48a03bbfd25e8cd036413f", "fffffffffffffffffffffffffffffffebaaedce6af48a03bbfd25e8cd0364140", 0, "2db815ac27466340f8949113059868b4942505d5c448c8d067923ed75186bb63", "f021b200116636830a963039aa8d39a75efaabbe4a0dd3825c3d24361b831377", "a462fc85f45a3913f6b80a3fa1dd740d2f170a25"},
		{"ffffffffffffffffffffffffffffffffffffffffffffffffffffffffffffffff", "2", "1", 0, "778418ad16e463bd1b4a331206b707973ae23c3fef1c4c31f35dd0af28b25cae", "56b6fb521b981d2fe3bffe2250c52779add688caf74b82669758913e9c9883cc", "d6215b5d58108f6e618da27f30be85d0f9f614f5"},
		{"7fffffffffffffffffffffffffffffff5d576e7357a4501ddfe92f46681b20a0", "fffffffffffffffffffffffffffffffebaaedce6af48a03bbfd25e8cd036413c", "7fffffffffffffffffffffffffffffff5d576e7357a4501ddfe92f46681b20a1", 0, "981b9a9b4a1b813e1ea7b60f26d52608c6839790e760637a58397127a30e323a", "a08938d639cf61dcc627380ea10459b95901f333374e525696f9a806835ba2b9", "28e768a336fd0867e49682ac1e3420a99cebf921"},
		{"7fffffffffffffffffffffffffffffff5d576e7357a4501ddfe92f46681b20a1", "31062c38cb7dee30c3a0a9568fda5929b42f1cfd247c3a58738efacd6b805ad0", "1", 0, "", "", ""},
		{"cb01c357b9c7e435396bcb8fac9abb0c3478442b4a8aa593eb40a9b81a070205", "2", "4c73f233c58e70c9462f09dfb728cfc0a9c6b5c42b48d173cd80b868e31e0280", 0, "b4cf8e0ca82af3a4b33f8834371243e79fd145080df90cb586b479f6bd464bed", "c74f9b5505d2e1d84b2424d3e6c4e18cd78be20b8262df28056cd65f3d09758e", "012f41d29bd3414425f450f60aa07109990452db"},
		{"6583d61435bb5c11e95027004448a6a1c5c7d1861674518de3bb41b36bf82959", "3db432498c7254612c4cfd20154c5eb5636694ba8ba64bc38f2ab367976e1087", "7fffffffffffffffffffffffffffffff5d576e7357a4501ddfe92f46681b20a1", 0, "098070c710f456e16a11763aef490e6f4aa7c07a4ca8c1a007eca885000220a2", "7e77adb57c0a5ac04042d44699c1afe947adc081e636f5ac224b9f2789278ac4", "bc59d8b93a7614c05b07466688ff6d73b24a7824"},
		{"01597ac1e2eb17c8b573f6c5331155190b0ecf26cf3c17e55777039e47fbb3b4", "2", "4a5ec231075db002a6ac1edef0f835a3110b98e88911ed91432f304ef249b5ce", 1, "04c208160e71075ea7ecbecac8aee9eda09aaaaa11abf23dd5a6cabbd7a18eb2", "e891174cf7099c19156266a90d81e7afe759d23d266aaf9e99471436ad69033f", "1478cfb609019473017b1d5030e71ac9936bf519"},
		{"239edd3a7de0d208d886c5d060fa1c95e553fb510e06acd4694398c5e11e99fb", "1", "fffffffffffffffffffffffffffffffebaaedce6af48a03bbfd25e8cd0364140", 1, "a50485d3508af2c49af4c96854b4a3fecb9147f0550d48c9160c0e5489bced8d", "6631e22f3981cd18cf56c1d6659030b681c8f5568acacc867a64a000b7f94a85", "bb2de1879e84a998553b0a571699a477707bb138"},
		{"f6c986f21caf107ad9c98c23e80a86cfbc79ce036cbaccf13c9a8df50602fe0c", "49b9d1b3e3c2eb0e037aa6b7ef4aa1f9fff151792bb8943bac661d9f6682f99", "7fffffffffffffffffffffffffffffff5d576e7357a4501ddfe92f46681b20a0", 1, "", "", ""},
		{"da298adee5329b4e329a86139425b3e2c3ad4d991f0916cb00fded6598cae043", "fffffffffffffffffffffffffffffffebaaedce6af48a03bbfd25e8cd036413f", "1", 0, "c1414e99e8168b2b0e18ddebea9d7ebe5f883660ccd602829b76c5d756284055", "5dc8da8ee1877613581491ec9df6d9f85c6a8dd51ed9dda76b64fe3a4481bf89", "f91521702c96464558a23bcd3e36810a1531acf7"},
	} {
		h, s := hash(x.hash), api.Sig{R: hex(x.r), S: hex(x.s), V: x.v}
		if x.who == "" {
			recovered(t, h, s, none(), api.ErrSeal)
			continue
		}
		recovered(t, h, s, api.Point{X: hex(x.x), Y: hex(x.y)}, api.OK)
		got, _ := sign.Who(h, s)
		same(t, "Who", got, address(x.who), h, s)
	}
}

func TestP9_5Recover(t *testing.T) {
	d := draw(41)
	all, l := hashes(d, 20), keys(d, 60)
	nobodys := 0
	for range 200 {
		h, s := pick(d, all), api.Sig{R: pick(d, l), S: pick(d, l), V: d.IntN(2)}
		p, is := toldRecover(h, s)
		e := api.OK
		if !is {
			e = api.ErrSeal
			nobodys++
		}
		recovered(t, h, s, p, e)
	}
	if nobodys < 40 || nobodys > 160 {
		t.Fatalf("%d of 200 signatures are nobody's", nobodys)
	}
}

// The other V is of the other point, and so is the other S.
func TestP9_5RecoverOther(t *testing.T) {
	d := draw(42)
	for _, key := range keys(d, 10) {
		h := api.Hash(word.Bytes(drawn(d)))
		s := signed(t, key, h)
		recovered(t, h, s, public(t, key), api.OK)
		turned := other(s)
		turned.V = 1 - s.V
		recovered(t, h, turned, public(t, key), api.OK)
		s.V = 1 - s.V
		p, e := sign.Recover(h, s)
		same(t, "Recover's error", e, api.OK, h, s)
		same(t, "whether Recover tells the key's point", p == public(t, key), false, h, s)
		same(t, "Verify", sign.Verify(p, h, s), true, p, h, s)
	}
}

func TestP9_5RecoverRefused(t *testing.T) {
	d := draw(43)
	key, h := below(d), api.Hash(word.Bytes(drawn(d)))
	s := signed(t, key, h)
	for _, a := range outer() {
		recovered(t, h, api.Sig{R: a, S: s.S, V: s.V}, none(), api.ErrArg)
		recovered(t, h, api.Sig{R: s.R, S: a, V: s.V}, none(), api.ErrArg)
		recovered(t, h, api.Sig{R: a, S: a, V: 1 - s.V}, none(), api.ErrArg)
	}
	for _, v := range []int{-1, -2, 2, 3, 27, 28, 255, 256, 257, 1 << 32, 1<<32 + 1, math.MaxInt, math.MinInt, math.MinInt + 1} {
		recovered(t, h, api.Sig{R: s.R, S: s.S, V: v}, none(), api.ErrArg)
		recovered(t, h, api.Sig{R: word.Of(5), S: s.S, V: v}, none(), api.ErrArg)
	}
	for _, v := range []int{0, 1} {
		recovered(t, h, api.Sig{R: word.Of(5), S: s.S, V: v}, none(), api.ErrSeal)
		recovered(t, h, api.Sig{R: word.Of(5), S: api.Word{}, V: v}, none(), api.ErrArg)
		recovered(t, h, api.Sig{R: word.Of(5), S: beside(0), V: v}, none(), api.ErrArg)
	}
}

// Whoever signs z with z's own point gets None: it is nobody's.
func TestP9_5RecoverNone(t *testing.T) {
	d := draw(44)
	for _, k := range keys(d, 10) {
		at := times(toBig(k), curve.Base())
		s := below(d)
		z := new(big.Int).Mul(toBig(s), toBig(k))
		h := api.Hash(word.Bytes(fromBig(z.Mod(z, order()))))
		recovered(t, h, api.Sig{R: at.X, S: s, V: int(at.Y[0] % 2)}, none(), api.ErrSeal)
		got, e := sign.Recover(h, api.Sig{R: at.X, S: s, V: int(1 - at.Y[0]%2)})
		same(t, "Recover's error of the other V", e, api.OK, k, s)
		same(t, "whether Recover tells a point", got.None, false, k, s)
	}
}

// A point whose X is the order or more is no signature's: an R that is its rest is taken for an X.
func TestP9_5RecoverAbove(t *testing.T) {
	d := draw(45)
	for _, at := range above(t) {
		h, s := api.Hash(word.Bytes(drawn(d))), below(d)
		recovered(t, h, api.Sig{R: at.X, S: s, V: int(at.Y[0] % 2)}, none(), api.ErrArg)
		rest := word.Sub(at.X, beside(0))
		x := api.Sig{R: rest, S: s, V: int(at.Y[0] % 2)}
		p, is := toldRecover(h, x)
		if is {
			recovered(t, h, x, p, api.OK)
		} else {
			recovered(t, h, x, none(), api.ErrSeal)
		}
		same(t, "whether it is that point's", p == owned(h, rest, s, at), false, h, x)
	}
}

package keccak_test

import (
	"crypto/sha3"
	"math"
	"testing"

	"bailiwick/keccak"
)

func TestP3_1Answers(t *testing.T) {
	var ones, count [25]uint64
	for i := range 25 {
		ones[i], count[i] = math.MaxUint64, uint64(i+1)
	}
	noughts := [25]uint64{
		0xf1258f7940e1dde7, 0x84d5ccf933c0478a, 0xd598261ea65aa9ee, 0xbd1547306f80494d, 0x8b284e056253d057,
		0xff97a42d7f8e6fd4, 0x90fee5a0a44647c4, 0x8c5bda0cd6192e76, 0xad30a6f71b19059c, 0x30935ab7d08ffc64,
		0xeb5aa93f2317d635, 0xa9a6e6260d712103, 0x81a57c16dbcf555f, 0x43b831cd0347c826, 0x01f22f1a11a5569f,
		0x05e5635a21d9ae61, 0x64befef28cc970f2, 0x613670957bc46611, 0xb87c5a554fd00ecb, 0x8c3ee88a1ccf32c8,
		0x940c7922ae3a2614, 0x1841f924a2c509e4, 0x16f53526e70465c2, 0x75f644e97f30a13b, 0xeaf1ff7b5ceca249,
	}
	for _, x := range []struct{ of, want [25]uint64 }{
		{[25]uint64{}, noughts},
		{noughts, [25]uint64{
			0x2d5c954df96ecb3c, 0x6a332cd07057b56d, 0x093d8d1270d76b6c, 0x8a20d9b25569d094, 0x4f9c4f99e5e7f156,
			0xf957b9a2da65fb38, 0x85773dae1275af0d, 0xfaf4f247c3d810f7, 0x1f1b9ee6f79a8759, 0xe4fecc0fee98b425,
			0x68ce61b6b9ce68a1, 0xdeea66c4ba8f974f, 0x33c43d836eafb1f5, 0xe00654042719dbd9, 0x7cf8a9f009831265,
			0xfd5449a6bf174743, 0x97ddad33d8994b40, 0x48ead5fc5d0be774, 0xe3b8c8ee55b7b03c, 0x91a0226e649e42e9,
			0x900e3129e7badd7b, 0x202a9ec5faa3cce8, 0x5b3402464e1c3db6, 0x609f4e62a44c1059, 0x20d06cd26a8fbf5c,
		}},
		{ones, [25]uint64{
			0x9f00f21bba6817c4, 0xcdf5aa0d21af5e78, 0xd6539abf24095b97, 0x8bb6f30a010f8228, 0xf0f711ba0547331d,
			0x4f44330558eb182f, 0x2213b79d9055207c, 0xeb5e5b55ca4fb490, 0x0bfaeb81a299b5d4, 0x9e5d924f1a65ed48,
			0x004650c533b7bfb3, 0xddad454b84d7ab05, 0xf03ce56503e82921, 0xce442e92c6728660, 0x1a9ce5e4b37ddcd3,
			0xf63b60e27cea6f0e, 0xcc4cc7fca665bfad, 0x40cf4eba54a2285d, 0x2725f1f142304213, 0x554d327de6fbad9b,
			0x19866a26cbc8bdc2, 0xe8c3c28faf02c7f5, 0xc6bc1f3512a665ae, 0xcaa831f1a5dc86ce, 0x3f82afe91ca4b9b0,
		}},
		{count, [25]uint64{
			0xad3cdd1217da77dc, 0xd9912b9cf1de9af0, 0x67e9eeb3d57e2675, 0x1947b8264661a962, 0x9f6671b770900ef7,
			0xe48e69cdfbddc1c3, 0x2a0b8ee724dd81a9, 0x426fa514e87c56c4, 0xf58f95c1c44b2592, 0xf39354dacc135d8d,
			0x810dd7751ca7387a, 0x7a5f2c31dbb3ca4e, 0x78b1fc70647453f6, 0x7b99c831dee0ee53, 0xc6c057d7dcb48d89,
			0x589ae03d72bc059f, 0x9ff0d985c0522bfe, 0x94fef97fddb5f45d, 0x83aaf60178825b67, 0xa854b54671881329,
			0xbed073577475186a, 0xa5ed94ddaf4694ee, 0x65c2be6dab562d3e, 0x2b896ec5f4984f6c, 0x41f16f13ce1d3908,
		}},
	} {
		same(t, "Permute", keccak.Permute(x.of), x.want, x.of)
		same(t, "the chapter's steps", permuted(x.of), x.want, x.of)
	}
}

func TestP3_1Steps(t *testing.T) {
	for _, s := range append(states(), singles()...) {
		same(t, "Permute", keccak.Permute(s), permuted(s), s)
	}
}

func TestP3_1ManyTimes(t *testing.T) {
	var got, want [25]uint64
	for n := range 1000 {
		got, want = keccak.Permute(got), permuted(want)
		same(t, "Permute", got, want, n)
	}
}

// SHA3-256 is told by the same permutation, of other bytes behind what is hashed.
func TestP3_1UnderSHA3(t *testing.T) {
	for n := range 500 {
		b := counted(n)
		same(t, "SHA3-256 by Permute", hashed(b, 0x06, keccak.Permute), sha3.Sum256(b), n)
	}
}

func TestP3_1ArgumentStays(t *testing.T) {
	for _, s := range states() {
		kept := s
		first := keccak.Permute(s)
		same(t, "what was handed in", s, kept)
		same(t, "Permute again", keccak.Permute(s), first, s)
	}
}

func TestP3_5Undone(t *testing.T) {
	for _, s := range append(states(), singles()...) {
		same(t, "the state that came to Permute", unpermuted(keccak.Permute(s)), s)
	}
	for _, s := range states() {
		same(t, "Permute of what comes to a state", keccak.Permute(unpermuted(s)), s)
	}
}

func TestP3_5NoTwoToOne(t *testing.T) {
	d := draw(5)
	from := map[[25]uint64][25]uint64{}
	hold := func(s [25]uint64) {
		t.Helper()
		to := keccak.Permute(s)
		if other, there := from[to]; there && other != s {
			t.Fatalf("%x and %x both come to %x", s, other, to)
		}
		from[to] = s
	}
	for _, s := range append(states(), singles()...) {
		hold(s)
		s[d.IntN(25)] ^= 1 << d.IntN(64)
		hold(s)
		i, j := d.IntN(25), d.IntN(25)
		s[i], s[j] = s[j], s[i]
		hold(s)
	}
}

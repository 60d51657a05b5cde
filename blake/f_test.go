package blake_test

import (
	"encoding/hex"
	"math"
	"testing"

	"bailiwick/blake"
)

func TestP6_1Answers(t *testing.T) {
	for _, x := range []struct {
		of     given
		rounds uint32
		last   bool
		want   string
	}{
		{abc(), 0, true, "08c9bcf367e6096a3ba7ca8485ae67bb2bf894fe72f36e3cf1361d5f3af54fa5d282e6ad7f520e511f6c3e2b8c68059b9442be0454267ce079217e1319cde05b"},
		{abc(), 0, false, "08c9bcf367e6096a3ba7ca8485ae67bb2bf894fe72f36e3cf1361d5f3af54fa5d282e6ad7f520e511f6c3e2b8c68059b6bbd41fbabd9831f79217e1319cde05b"},
		{abc(), 1, true, "b63a380cb2897d521994a85234ee2c181b5f844d2c624c002677e9703449d2fba551b3a8333bcdf5f2f7e08993d53923de3d64fcc68c034e717b9293fed7a421"},
		{abc(), 1, false, "f5ac05ae4119ecaff1d460125dfb67c8b09905d708331b55c10b6b84d8fb3eea0e741b0c85d57c64c56bbb5b0bf794f7495748b71f97e851ebc1f91fe47e5297"},
		{abc(), 2, true, "2c96ff1bd7926f1b8bcd7824d808fdde9cf850920b625c59f1558bc608fb66a50070f53367230679e4949e7d32baac94f33af05175b7abf3b4972425a7b068ca"},
		{abc(), 2, false, "88ded215c5e361d00d4c79121d3326d8811eef0537a7fdefca3dedbab7537a7b2d38cebb3d18be71686c4060042f6ed7bfef347902318786c8a7adff5ead4e66"},
		{abc(), 9, true, "69fbbdf42d5f5f2eb657faaa82862c9a492237cbb93ffd9938ff7b757671fac0a19b9f27d130b78180d070f9b9b96ee1bb1d69e2edae0c1b7602f2f2e0977614"},
		{abc(), 9, false, "9725adec58a6e4dce9b1ad5e91a78f4bab965018af9237212d8f740954e7fe9042ac84d47f31969ea15ee71e416d65f682692af0011fff2020ca5e934f3f9019"},
		{abc(), 10, true, "5a4308e0e1daede181b47775d926a6b4b6a0adf86d05bfea696fac45f08419623976bd3c786f61500b9f94a043b9dcf397e38ee237f3c273a7d812be20874f5a"},
		{abc(), 10, false, "7e17552d599dcfc4db3567ced40798a30cb39ebd98353e998a5c61b5d3bd7a3cc0f1971d4044dd5248722e4f1e447a6ac7edd6fe9f5896276803ddd09cb6aa75"},
		{abc(), 11, true, "60faa8f91624b2b718210df242b788c7ae887e953dce3c7f80862bc5e4f88d827cada4d95d2c4ac41eb66b84fcdc0e12ab0c66f4d9d546ff8a0d712f324e1845"},
		{abc(), 11, false, "3c5052e2bca2fb7c23e50ea3149d3fe71668c1f6204f9994099e8f9623a3b72e96a55864196805ba7a6a7dc8d4ee222b2a3a8d598ebc9051173e78abbaafc415"},
		{abc(), 12, true, "ba80a53f981c4d0d6a2797b69f12f6e94c212f14685ac4b74b12bb6fdbffa2d17d87c5392aab792dc252d5de4533cc9518d38aa8dbf1925ab92386edd4009923"},
		{abc(), 12, false, "75ab69d3190a562c51aef8d88f1c2775876944407270c42c9844252c26d2875298743e7f6d5ea2f2d3e8d226039cd31b4e426ac4f2d3d666a610c2116fde4735"},
		{abc(), 13, true, "5e6563daea76f0766a4c70cd34bf3edf59ce91ee7e2eb668feb2b60f1c687d7438e1c2c29a5a5dcd3da4ca87a92209e4708731396fcc440a5a1e62787f7c8b9a"},
		{abc(), 13, false, "77e41f74dcc3975034d4da6bfaf6b08be7822def617d92a95a58583502bdd3a216b9f6582d9683fdffbba5be325dfa1a0d0ca89f1da3bbab6e387be9043d6e0c"},
		{abc(), 20, true, "0c1b96fc9c06898bb49af24ef91a669143df8e847807765da43f8ad6c0ec5180e6ab033a21428e52c5d933345f81d8300a02158704935b7a020d990572ad9be0"},
		{abc(), 20, false, "c7e4c38f3503e98a56de741f552fca094378bd7987672a65821f0bfd033a8f29500937f48d3f792ede5ddfab67babe3249c24b03ac76211ba3d744822d0af071"},
		{abc(), 21, true, "3bec7c26dbf9fb0ccefb0c3cfc38f65118f29c1538f6cd9969857d6cd9802ca7da729afd9688fcd82c85ad1913fe48c0db42a951a72e4aed80db00571923afbe"},
		{abc(), 21, false, "0d4281b9bd1df7f31a4e76a96d8e92cefb538945b8186f60186f9ca4d5f80e0f77d7782ea9fb6700b4c35a1112f721829a9a271ac0e49052a26adc7c6620cee2"},
		{given{}, 0, false, "08c9bcf367e6096a3ba7ca8485ae67bb2bf894fe72f36e3cf1361d5f3af54fa5d182e6ad7f520e511f6c3e2b8c68059b6bbd41fbabd9831f79217e1319cde05b"},
		{given{}, 0, true, "08c9bcf367e6096a3ba7ca8485ae67bb2bf894fe72f36e3cf1361d5f3af54fa5d182e6ad7f520e511f6c3e2b8c68059b9442be0454267ce079217e1319cde05b"},
		{ones(), 0, false, "08c9bcf367e6096a3ba7ca8485ae67bb2bf894fe72f36e3cf1361d5f3af54fa52e7d195280adf1aee093c1d47397fa646bbd41fbabd9831f79217e1319cde05b"},
		{ones(), 0, true, "08c9bcf367e6096a3ba7ca8485ae67bb2bf894fe72f36e3cf1361d5f3af54fa52e7d195280adf1aee093c1d47397fa649442be0454267ce079217e1319cde05b"},
		{rising(), 0, false, "08c9bcf367e6096a3ba7ca8485ae67bb2bf894fe72f36e3cf1361d5f3af54fa5c082e6ad7f520e510d6c3e2b8c68059b6bbd41fbabd9831f79217e1319cde05b"},
		{rising(), 0, true, "08c9bcf367e6096a3ba7ca8485ae67bb2bf894fe72f36e3cf1361d5f3af54fa5c082e6ad7f520e510d6c3e2b8c68059b9442be0454267ce079217e1319cde05b"},
		{given{}, 1, false, "cf2ff7fd182851eee61500d0c46d2f9dbd1686ffdd4b4c5b3f73349683c8e040cbbf5fb69e4bf8d1222b39f588043eed33ae808682ae782425f2f1845245573f"},
		{given{}, 1, true, "72bdf8df899be986e81ff193feb3c8d679f3f2e996660f067970b6b9e0dcc94e3af253edc54cd7110e7d7376b3c2ba0f4bc0ddef7a562a9954413fff495dea51"},
		{ones(), 1, false, "ad3929e95499b05602680e1039b99d54f1772bc1943311ddede4ccb933d1781f08e83b699e23a5c3106a264aa29f0948bf392758615ba1ec56fe3fee1fc6b6a0"},
		{ones(), 1, true, "299f46a3fb58f8a49c09eea7d783664e2fda2c582cb0b91628630be7d6d3274f7bdad7c1b9a1816c0f444170e1879d7dec9e916ab2dc8601bb8e481482f47fcd"},
		{rising(), 1, false, "0a4d33a6a35ae15693628f54497d2a77510f57407492d638277591ba0740db39367175050f813fc474c0f40dc23bf299608a7b4812b9ad24ffb1fb92d480dab5"},
		{rising(), 1, true, "fdac5534503f71968eeb243e2308f4c0b5ad05eb6b37ee7962867934a372b1523a5a48a87b92b73cc2c203ff3ab99a21f111440aed4e7ae6e7e664f81b54cb40"},
		{given{}, 10, false, "989d31826fafb882cf97c91bb8ef1401530dc10cc0d344cd0b3f603446440aee69ac82f3aaa3f547f2d5f10346ad80ee2d0165ab9e895769ab1b6e727a6b05f5"},
		{given{}, 10, true, "5054e9e8d8191ff34b0ca129479fcc97c1523b5ace0df24c1e9fe6f137ea4f6ea8ddc60049115a32932fa1fa0f1d1c4f532bfac95ffc1ca1b82e3b78c3d2296a"},
		{ones(), 10, false, "d60d35f97cd22c04a29808975adb5a6707e94d5888c5f141861e53bd7644c9eb500c2eebc54b2e76c53c38a9be560b1ffb4c3653f80695fe48aeeee54f59b937"},
		{ones(), 10, true, "96fbb6b073e3ef11df4113ae785049b814d27d9968655e14789f63d2cf595e4925e7bc2b90c50c99b058e839f0af54277cafdd69e557f9c998230777a7277840"},
		{rising(), 10, false, "3e0ea2ac2e161ddf7e4b0666583e8102bfab138653c53260ba68d58248bd8e775357461fef08818fd8f1775f2435f6e15533b0947a4c17ba0c917778dded3c0a"},
		{rising(), 10, true, "adc4babda9285e0965ebd256f4821c6041034c6671ff60be5ace74f2edefa123277829c2fd721c98e49ebe0252d64e51975c26c105bda046a43843d630098626"},
		{given{}, 11, false, "b6b2bb23b6f490445fd3d6a2ab90762990fd41aa08d691743f72628d42daebc54c98a9e5041207a734a534b52d5a18b6b6f10ac20c22508db2c304447b9b1f3d"},
		{given{}, 11, true, "3aae7ca56fc77dd773830ab64f3e2e70e84482e182298ebcbdc3ce620de598f4fdda144f1028a675096258901c983c4264676b1bed810c44b0ad81474c45ac90"},
		{ones(), 11, false, "dd1afc0c74b0ea5512c2f6889eb6acf704b2e498f0f0147408621d4efbdaa5cb8da260e033424d7e575af0ed61b5aac120774dc244df8895e4512ea17765ea6c"},
		{ones(), 11, true, "496a296025206f00233869ae1e24b1cbca43198a72f413920ba4f84ee4fe3f45ac381dbbdf00b356b61e840c45f041bdc53e1ed462142a55d907561ab4e32077"},
		{rising(), 11, false, "29daf02439e9ac7ba487357ff5f0d7f192f0621e1b3db569e5c6e4740a4d081efec209f3e7924520666ffe01ee66227b1a52d51d329f006d1b59b4ff286fcbc8"},
		{rising(), 11, true, "8c7a070ffac3d16638b7e67357a57d1600820cda5e0de47aebcd436e97e103f2ddb0db5acc6efa800d072d0247d4d062a8c407da99086415369940b6a392f991"},
		{given{}, 12, false, "c75a111960503f4db80adc573d73a22f1356849f12c1e1d1ac02e9c8c91d0665cee84a462f685c8a68d709a472b99e3d05e06a695dc2d961c9eba0bd36692eee"},
		{given{}, 12, true, "6883d5a3342278f1b8980117edb5bb495e5dcebab58bbeebeb210e7df6d3e8c0841d17f69ce562082ca1c45e66af40dbf11c691f2088699011618b46e7c6afa3"},
		{ones(), 12, false, "73f22b59426f87d0dafd56f98c0035b5a133380120c94eb20a6c1847edeba8d884b4c076c81220fdf14faf3062bf09ddf9e0dd9cdd34e00d4e004fe0e76a6b63"},
		{ones(), 12, true, "2e1294002a085ffb06b7a7cc5e4391ca42218229ede614b7f4e70074c35acfc7e38c8f872d930b179196468e5e8e4ab76b155b13eff0d38df34a6d05b4155d3f"},
		{rising(), 12, false, "a364707920101c25590f7564339fe2889e79c4668148c5be1ef644cd6fd8059c1eae79a5c0663338f09c93ef432c4ef191f9bbfc6d3a56dbf453f54a0859252e"},
		{rising(), 12, true, "9919fac766b420831bd25f91cc97c4e6a40fdd481611b2f3718956b990b79d6ed462b90e86f24e28a3fe09e1645bbad75b331188b26cdb484107a2179b2c6e39"},
	} {
		x.of.rounds, x.of.last = x.rounds, x.last
		same(t, "F", digits(x.of.f()), x.want, x.of)
		same(t, "the chapter's words", digits(told(x.of)), x.want, x.of)
	}
}

// The library's hashes are what F makes, gone through again and again.
func TestP6_1Hashes(t *testing.T) {
	for _, x := range []struct {
		n    int
		want string
	}{
		{0, "786a02f742015903c6c6fd852552d272912f4740e15847618a86e217f71f5419d25e1031afee585313896444934eb04b903a685b1448b755d56f701afe9be2ce"},
		{1, "2fa3f686df876995167e7c2e5d74c4c7b6e48f8068fe0e44208344d480f7904c36963e44115fe3eb2a3ac8694c28bcb4f5a0f3276f2e79487d8219057a506e4b"},
		{3, "40a374727302d9a4769c17b5f409ff32f58aa24ff122d7603e4fda1509e919d4107a52c57570a6d94e50967aea573b11f86f473f537565c66f7039830a85d186"},
		{127, "b6292669ccd38d5f01caae96ba272c76a879a45743afa0725d83b9ebb26665b731f1848c52f11972b6644f554c064fa90780dbbbf3a89d4fc31f67df3e5857ef"},
		{128, "2319e3789c47e2daa5fe807f61bec2a1a6537fa03f19ff32e87eecbfd64b7e0e8ccff439ac333b040f19b0c4ddd11a61e24ac1fe0f10a039806c5dcc0da3d115"},
		{129, "f59711d44a031d5f97a9413c065d1e614c417ede998590325f49bad2fd444d3e4418be19aec4e11449ac1a57207898bc57d76a1bcf3566292c20c683a5c4648f"},
		{255, "fe2c02da499516b0e9fb2dd70c49eb3629039f632e20a880946fb7bc97a7ab09deb7d48774d7f0648141c9d9ede19ae6e0dbf07863a128cf4b00195f0f179f74"},
		{256, "93463ac058b6163eb43be3f5bb32b28541498f4e3366f1effe253ad44e1e076e41c3616046027c82a7124f8f4746668ad10b12e8e25a95ac8f3151df01cd5a93"},
		{257, "9ca40e2ddee9436dbbd08efc65dbaf4870059f5eb3d76efd20241ae5bf13c60f250b882ea5c564838257a3fc95c496819ace2c6490b55b268535208dfc31822c"},
		{1000, "c11e1c0340bd7e5a1b275f1230c962fad215ecb1391486e74e31b960a2f2996381a5fad092da06841d5f26e38f6ecfeaf441acbcd1c2de61aef121e7927175f5"},
		{4096, "c7a3d6a53bd11772ecf077c1dc9633a39c6fe691ec07a530e0e765c0a9d5a01a16f00995536578b83e54c2821766ac7ac6ae86e22269a5d14208ccac954cc95f"},
	} {
		same(t, "the hash", hex.EncodeToString(hashed(counted(x.n))), x.want, x.n)
	}
}

func TestP6_1NoRound(t *testing.T) {
	d := draw(1)
	for range 500 {
		x := drawnAtEnds(d)
		x.rounds = 0
		want := roots
		want[4] ^= x.t[0]
		want[5] ^= x.t[1]
		if x.last {
			want[6] ^= math.MaxUint64
		}
		same(t, "F", x.f(), want, x)
	}
}

// Each round has its row of places, those behind the tenth have the rows again.
func TestP6_1EachRound(t *testing.T) {
	d := draw(2)
	for rounds := range uint32(64) {
		for _, x := range []given{{}, abc(), rising(), ones(), drawn(d), drawnAtEnds(d)} {
			x.rounds = rounds
			same(t, "F", x.f(), told(x), x)
		}
	}
	for _, rounds := range []uint32{99, 100, 101, 255, 256, 257, 1000, 4099} {
		x := drawn(d)
		x.rounds = rounds
		same(t, "F", x.f(), told(x), x)
	}
}

func TestP6_1MostRounds(t *testing.T) {
	for rounds, want := range map[uint32]string{
		1<<16 - 1: "183ed9b1e5594bcdd715a4e4fd7b0dc2eaa2ef9bda48242af64c687081142156621bc94bb2d5aa99d83c2f1a5d9c426e1b6a1755a5e080f6217e2a5f3b9c4624",
		1 << 16:   "e2ebda63cc31d33d50e4ead2fc13872e79e0097e29905bc321a0a5fdc8ac483ef7664d7ebf3502a219b7976189718fc9b4883088f2c9260da139be3b5a27e2fd",
	} {
		x := abc()
		x.rounds = rounds
		same(t, "F", digits(x.f()), want, x)
	}
	d := draw(3)
	for _, x := range []given{{}, abc(), drawn(d), drawn(d)} {
		x.rounds = 1 << 16
		want := told(x)
		for _, rounds := range []uint32{1 << 16, 1<<16 + 1, 1<<16 + 12, 1 << 17, 1<<17 + 1, 1 << 24, math.MaxInt32, 1 << 31, math.MaxUint32 - 1, math.MaxUint32} {
			x.rounds = rounds
			same(t, "F", x.f(), want, x)
		}
		x.rounds = 1<<16 - 1
		same(t, "F", x.f(), told(x), x)
	}
}

func TestP6_1AnyNumbers(t *testing.T) {
	d := draw(4)
	for range 3000 {
		for _, x := range []given{drawn(d), drawnAtEnds(d)} {
			same(t, "F", x.f(), told(x), x)
		}
	}
}

// Each bit plays its part.
func TestP6_1EachBit(t *testing.T) {
	for _, rounds := range []uint32{0, 1, 2, 12} {
		for _, last := range []bool{false, true} {
			for _, x := range []given{{}, rising(), ones(), drawn(draw(5))} {
				x.rounds, x.last = rounds, last
				for bit := range allBits {
					x.flip(bit)
					same(t, "F", x.f(), told(x), x)
					x.flip(bit)
				}
			}
		}
	}
}

// What comes out goes in again.
func TestP6_1ManyTimes(t *testing.T) {
	var h [8]uint64
	var m [16]uint64
	for n := range 1000 {
		h = blake.F(uint32(n%23), h, m, [2]uint64{uint64(n), h[0]}, n%2 == 1)
		for i := range m {
			if i < 8 {
				m[i] += h[i]
			} else {
				m[i] ^= h[i-8]
			}
		}
	}
	want := "400c524f985f2745a9bbfd3414bc3bf6402246a9a3c6b99e12a80680c658d9f34378ed860e0afab8f8ade8fb4d6bf8831feffd6bf3ad9c933bc84c2edd3f6924"
	same(t, "F", digits(h), want, "1000 times what came out")
}

// What was reckoned ahead plays no part, and what is handed in stays as it is.
func TestP6_1NothingKept(t *testing.T) {
	d := draw(6)
	for range 200 {
		x, other := drawn(d), drawn(d)
		kept, first := x, x.f()
		other.f()
		same(t, "what was handed in", x, kept)
		same(t, "F again", x.f(), first, x)
	}
}

func TestP6_3WithoutRounds(t *testing.T) {
	d := draw(7)
	for range 300 {
		x := drawnAtEnds(d)
		x.rounds, x.m = 0, [16]uint64{}
		want := x.f()
		for _, m := range [][16]uint64{rising().m, ones().m, drawn(d).m, drawnAtEnds(d).m} {
			x.m = m
			same(t, "F", x.f(), want, x)
		}
	}
}

func TestP6_3EachBitOfM(t *testing.T) {
	for _, x := range []given{{}, abc(), rising(), ones(), drawn(draw(8))} {
		x.rounds = 0
		want := x.f()
		for bit := 64 * len(x.h); bit < 64*(len(x.h)+len(x.m)); bit++ {
			x.flip(bit)
			same(t, "F", x.f(), want, x)
			x.flip(bit)
		}
	}
}

// By bytes as by numbers.
func TestP6_3ByBytes(t *testing.T) {
	d := draw(9)
	for range 300 {
		x := drawn(d)
		x.rounds = 0
		want := called(t, written(x))
		x.m = drawn(d).m
		same(t, "Call", called(t, written(x)), want, x)
	}
}

// With a round F hangs on each number of m.
func TestP6_3WithARound(t *testing.T) {
	for _, x := range []given{{}, abc(), rising(), ones()} {
		x.rounds = 1
		without := x.f()
		for i := range x.m {
			other := x
			other.m[i]++
			if other.f() == without {
				t.Fatalf("F of %v does not hang on the number %d of m", x, i)
			}
		}
	}
}

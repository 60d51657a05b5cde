package sign_test

import (
	"math/big"
	"testing"

	"bailiwick/api"
	"bailiwick/curve"
	"bailiwick/sign"
	"bailiwick/word"
)

// Pinned answers, made by a second program, some of them well known: a key, a hash, the number it is signed with, R, S and V.
func TestP9_3Answers(t *testing.T) {
	for _, x := range []struct {
		key, hash, nonce, r, s string
		v                      int
	}{
		{"1", "0000000000000000000000000000000000000000000000000000000000000000", "010497d369b3d525ca15ec29c104a694210bb59ff6cabfc10afe6df0283896df", "a0b37f8fba683cc68f6574cd43b39f0343a50008bf6ccea9d13231d9e7e2e1e4", "11edc8d307254296264aebfc3dc76cd8b668373a072fd64665b50000e9fcce52", 1},
		{"fffffffffffffffffffffffffffffffebaaedce6af48a03bbfd25e8cd0364140", "0000000000000000000000000000000000000000000000000000000000000001", "8b019446aa53c1e9ec19b87cc6229a79954deb5ac752e13d874ea6911da70ce5", "eaa03e6c5cc815dd7cee2e11460df51a04bfd9b3169aa63f735c95dcf623c95d", "192bf170e5284efefdb0d8ce148759a48ada553bd929d3deda5451decfa5c70e", 1},
		{"2", "fffffffffffffffffffffffffffffffebaaedce6af48a03bbfd25e8cd0364140", "b698980066acadb4dbb48312db6aff31ff946893822c22367d58bacfa9fcf2e8", "983c44e113f2b627dfd3eb3f4b0befa0977d6c515a8b7546a466517d45c5733c", "69bd3683fc84a66bae2e454fa65fd378100d3a4ad7cb3120d8d8bec0d90b9350", 1},
		{"7fffffffffffffffffffffffffffffff5d576e7357a4501ddfe92f46681b20a1", "fffffffffffffffffffffffffffffffebaaedce6af48a03bbfd25e8cd0364141", "0158cf829c4985c3851e4949d5640934e323a8ca383c10d2c37e3e70f54de99d", "b06a35f4d65b5f2cef94876f2681d51ff539d62f30c842a3820d65aab062c166", "70c8b60b2060cd4fc278ab7c6ed5ffc33291f584dea727548e13e8450b44b05b", 1},
		{"eaeb999b8a2e547e22184e8215607df9e4794195021cd6ff548914ef33fb4b4f", "fffffffffffffffffffffffffffffffebaaedce6af48a03bbfd25e8cd0364142", "02d4df33a1a0906f1b2b3a7d93e8b40de1a07795277d6cecf2d5c57ed06a307b", "b74579c4e3ff01c610daa5a90666145defadcad70234c4a875c77256f42f9cf7", "272bb931f5cc02b7e3449bb61b7b2f0297d8fcfc41fa60ab3b1fabf099004304", 1},
		{"32bba064ebc1d3d2899f57f77f2a75ec92aeb20c15b7d95f8034a6a704789365", "ffffffffffffffffffffffffffffffffffffffffffffffffffffffffffffffff", "97d38be828647d0d489fabf9163ae179502a377014f80861ba4ebfa98ae04b6e", "b490179d0ddb6a6b57274306faa050d9a4d6e431b40556b194893cc784e16a6f", "10916818c4c37b60bd84b0e85bbbba03162686d34f9ae1e153f3e5fca68f2d5a", 1},
		{"b36ac08417ea3a98c3d0560da382fe103131b13d65ec29f8119e333a6b8c290d", "7fffffffffffffffffffffffffffffff5d576e7357a4501ddfe92f46681b20a0", "0ffc0fffb0b1d401b8ea03dd420d9bdc7f328c28075b4ad9e544660c40c49feb", "4dd5bf8aa68315aeed8d6c4495e7adc338f1e603911bb704a660175d4a5d6fb2", "0069964630e1c72e41d8e23bbfd6b19075fe42ce78316fe6d8d36d19381fd334", 0},
		{"a8c16a8f554d8c2b83a04209be01b4ff09131582c2c93ab25362104946dc860", "7fffffffffffffffffffffffffffffff5d576e7357a4501ddfe92f46681b20a1", "11325fb738a5d4384f06aba13d4f4d33dd878294c4ca16139c4fc643fda8bff5", "472924ab819f6d607fa8a5a770c202452ffbe464b5b41997e46cb7aeb6781b03", "3809fcfa28c75671eff594c227629b67ea58bbe5c84d6781493499068a5f1201", 1},
		{"1", "cb01c357b9c7e435396bcb8fac9abb0c3478442b4a8aa593eb40a9b81a070205", "6c5fc274c4f1e82ba966bbb418de3eb11bf0dc43af9acce3ff0bc0576d7c9577", "124658e6604589ad99ab643160a701035bacc4c51dbb33135da233d360ab9ef6", "217f37d56198718f20846530fb7c49b3bfc7fafef5f73493c4a7531f9b0961b2", 0},
		{"fffffffffffffffffffffffffffffffebaaedce6af48a03bbfd25e8cd0364140", "6583d61435bb5c11e95027004448a6a1c5c7d1861674518de3bb41b36bf82959", "c254a0ef121d9c1f2e2940df80178d9da8cd8a82c62d5590e839d2799702d181", "49faa299af4fa106ad5fb558dea6912bbd4c74eeae26695a8b539a186bf87e50", "28f1203acb4e24353bcbbb4611b560a03310c5a6438e87fe0a60f8cd9bb6ff7b", 0},
		{"2", "01597ac1e2eb17c8b573f6c5331155190b0ecf26cf3c17e55777039e47fbb3b4", "e89c4d577aab2f3af14502aacf1738819fe369712923c1e28fb6da659553b1cd", "6cf7b266c5e16b86fc4eeaa86f1d60747e42e93804394a718362dac8b0f9b6dd", "3522d1b4a811d1435b4ab1a79aa3e76dc2e5bb7a23eddfc42562a7e3ff1da97c", 1},
		{"7fffffffffffffffffffffffffffffff5d576e7357a4501ddfe92f46681b20a1", "239edd3a7de0d208d886c5d060fa1c95e553fb510e06acd4694398c5e11e99fb", "30153bd6f663bd4a9bb56b034cea71f19b87387c28b3778d03bc072dc7ebfd14", "22a67dec53da7545ef0e21a91ca8161daba7e12f844dce09216f6a4e687b857a", "632f91d640defeb4c66a4615c7ba13ac1372dd2bc990714105021f8810a35290", 1},
		{"eaeb999b8a2e547e22184e8215607df9e4794195021cd6ff548914ef33fb4b4f", "f6c986f21caf107ad9c98c23e80a86cfbc79ce036cbaccf13c9a8df50602fe0c", "be6ee9b76f84b415ad4043e22d7699aa4063065d362c2112ea2886abfb6c4538", "911627a9a890c61d5f3e1ea3d4a68f1704b7316236a81374c909ed0c63005a15", "42a4642435e1a19b8fa1319e2db4d573a88b76e3259770bcfaecdca50d59cd97", 0},
		{"32bba064ebc1d3d2899f57f77f2a75ec92aeb20c15b7d95f8034a6a704789365", "da298adee5329b4e329a86139425b3e2c3ad4d991f0916cb00fded6598cae043", "6e3ba0fc409175d0d36c740f3b4ee76c7e652201ac1aba8942c25934b4098880", "a58178b88716481c8e21715535fa56d98d0979bbaba442e16e921293548d1265", "0b52f42cdb8f01e997625fdde8191dd0b233440abead75f9cd79dbbe39a87d65", 0},
		{"1", "a0dc65ffca799873cbea0ac274015b9526505daaaed385155425f7337704883e", "8f8a276c19f4149656b280621e358cce24f5f52542772691ee69063b74f15d15", "934b1ea10a4b3c1757e2b0c017d0b6143ce3c9a7e6a4a49860d7a6ab210ee3d8", "2442ce9d2b916064108014783e923ec36b49743e2ffa1c4496f01a512aafd9e5", 1},
		{"1", "7d1833f54854ac51659521afcd0ec6dca2ce2351429614bfa28a756b1b3c637f", "38aa22d72376b4dbc472e06c3ba403ee0a394da63fc58d88686c611aba98d6b3", "8600dbd41e348fe5c9465ab92d23e3db8b98b873beecd930736488696438cb6b", "547fe64427496db33bf66019dacbf0039c04199abb0122918601db38a72cfc21", 0},
		{"fffffffffffffffffffffffffffffffebaaedce6af48a03bbfd25e8cd0364140", "a0dc65ffca799873cbea0ac274015b9526505daaaed385155425f7337704883e", "33a19b60e25fb6f4435af53a3d42d493644827367e6453928554f43e49aa6f90", "fd567d121db66e382991534ada77a6bd3106f0a1098c231e47993447cd6af2d0", "6b39cd0eb1bc8603e159ef5c20a5c8ad685a45b06ce9bebed3f153d10d93bed5", 0},
		{"f8b8af8ce3c7cca5e300d33939540c10d45ce001b8f252bfbc57ba0342904181", "4ba38d48a60f1b29e9eb726eaff08b2e83d8d81e031666fee50e85900d7dc1ef", "525a82b70e67874398067543fd84c83d30c175fdc45fdeee082fe13b1d7cfdf1", "7063ae83e7f62bbb171798131b4a0564b956930092b33b07b395615d9ec7e15c", "58dfcc1e00a35e1572f366ffe34ba0fc47db1e7189759b9fb233c5b05ab388ea", 0},
		{"4c0883a69102937d6231471b5dbb6204fe5129617082792ae468d01a3f362318", "1da44b586eb0729ff70a73c326926f6ed5a25f5b056e7f47fbc6e58d86871655", "b53f30e054e5cad783c165e762a24a13847abe2540677bcce837091eab458320", "b91467e570a6466aa9e9876cbcd013baba02900b8979d43fe208a4a4f339f5fd", "6007e74cd82e037b800186422fc2da167c747ef045e5d18a5f5d4300f8e1a029", 1},
	} {
		same(t, "Nonce", nonce(t, hex(x.key), hash(x.hash)), hex(x.nonce), x.key, x.hash)
		same(t, "Sign", signed(t, hex(x.key), hash(x.hash)), api.Sig{R: hex(x.r), S: hex(x.s), V: x.v}, x.key, x.hash)
	}
}

func TestP9_3Sign(t *testing.T) {
	d := draw(21)
	all := hashes(d, 40)
	turned := 0
	for _, key := range keys(d, 60) {
		h := pick(d, all)
		got := signed(t, key, h)
		same(t, "Sign", got, toldSign(key, h), key, h)
		if times(toBig(nonce(t, key, h)), curve.Base()).Y[0]%2 != uint64(got.V) {
			turned++
		}
	}
	if turned < 10 || turned > 60 {
		t.Fatalf("%d signatures of some 80 had too high an S first", turned)
	}
	key := below(d)
	for _, h := range all {
		same(t, "Sign", signed(t, key, h), toldSign(key, h), key, h)
	}
}

func TestP9_3SignRefused(t *testing.T) {
	d := draw(22)
	for _, key := range outer() {
		got, e := sign.Sign(key, api.Hash(word.Bytes(drawn(d))))
		same(t, "Sign's error", e, api.ErrArg, key)
		same(t, "Sign", got, api.Sig{}, key)
	}
}

// leading is what has to be signed for this S, with key, and with the number k.
func leading(key, k, s api.Word) api.Word {
	p := times(toBig(k), curve.Base())
	z := new(big.Int).Mul(toBig(s), toBig(k))
	z.Sub(z, new(big.Int).Mul(toBig(p.X), toBig(key)))
	return fromBig(z.Mod(z, order()))
}

// Each S from 1 to the order less 1 can be, and is made low: at the ends, and in the middle.
func TestP9_3Ends(t *testing.T) {
	d := draw(23)
	for _, s := range append(inner(), word.Sub(half(), word.Of(1)), word.Add(half(), word.Of(2))) {
		key, k := below(d), below(d)
		p := times(toBig(k), curve.Base())
		want := api.Sig{R: p.X, S: s, V: int(p.Y[0] % 2)}
		if word.Cmp(s, half()) > 0 {
			want.S = fromBig(new(big.Int).Sub(order(), toBig(s)))
			want.V = 1 - want.V
		}
		got, e := sign.Made(key, leading(key, k, s), k, p)
		same(t, "the error of a signature", e, api.OK, s, key, k)
		same(t, "a signature", got, want, s, key, k)
	}
}

// No key and no hash are known whose R or S is 0, or whose X is the order or more.
func TestP9_3Zero(t *testing.T) {
	d := draw(24)
	key, k := below(d), below(d)
	p := times(toBig(k), curve.Base())
	got, e := sign.Made(key, leading(key, k, api.Word{}), k, p)
	same(t, "the error of a signature with an S of 0", e, api.ErrZero, key, k)
	same(t, "a signature with an S of 0", got, api.Sig{}, key, k)
	for _, x := range []api.Word{{}, beside(0), beside(1), beside(2), word.Sub(fromBig(prime()), word.Of(1))} {
		for y := range uint64(2) {
			got, e = sign.Made(key, drawn(d), k, api.Point{X: x, Y: word.Of(y)})
			same(t, "the error of a signature with this X", e, api.ErrZero, x)
			same(t, "a signature with this X", got, api.Sig{}, x)
		}
	}
	got, e = sign.Made(key, word.Of(5), k, api.Point{X: beside(-1)})
	same(t, "the error of a signature with this X", e, api.OK)
	same(t, "the R of a signature with this X", got.R, beside(-1))
}

func TestP9_3Low(t *testing.T) {
	d := draw(25)
	all := append(append(inner(), outer()...), word.Sub(half(), word.Of(1)), word.Add(half(), word.Of(2)))
	for range 40 {
		all = append(all, drawn(d))
	}
	for k := range uint64(256) {
		bit := word.Shl(word.Of(k), word.Of(1))
		all = append(all, bit, word.Add(half(), bit), word.Sub(half(), bit))
	}
	for _, s := range all {
		want := new(big.Int).Lsh(toBig(s), 1).Cmp(order()) <= 0
		for _, x := range []api.Sig{{S: s}, {R: drawn(d), S: s, V: 1}, {R: word.Not(api.Word{}), S: s, V: -1}} {
			same(t, "Low", sign.Low(x), want, x)
		}
	}
}

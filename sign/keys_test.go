package sign_test

import (
	"testing"

	"bailiwick/api"
	"bailiwick/curve"
	"bailiwick/sign"
)

// Pinned answers, made by a second program: a key, its point's X and Y, its address.
func TestP9_1Answers(t *testing.T) {
	for _, x := range []struct{ key, x, y, who string }{
		{"1", "79be667ef9dcbbac55a06295ce870b07029bfcdb2dce28d959f2815b16f81798", "483ada7726a3c4655da4fbfc0e1108a8fd17b448a68554199c47d08ffb10d4b8", "7e5f4552091a69125d5dfcb7b8c2659029395bdf"},
		{"2", "c6047f9441ed7d6d3045406e95c07cd85c778e4b8cef3ca7abac09b95c709ee5", "1ae168fea63dc339a3c58419466ceaeef7f632653266d0e1236431a950cfe52a", "2b5ad5c4795c026514f8317c7a215e218dccd6cf"},
		{"3", "f9308a019258c31049344f85f89d5229b531c845836f99b08601f113bce036f9", "388f7b0f632de8140fe337e62a37f3566500a99934c2231b6cb9fd7584b8e672", "6813eb9362372eef6200f3b1dbc3f819671cba69"},
		{"fffffffffffffffffffffffffffffffebaaedce6af48a03bbfd25e8cd0364140", "79be667ef9dcbbac55a06295ce870b07029bfcdb2dce28d959f2815b16f81798", "b7c52588d95c3b9aa25b0403f1eef75702e84bb7597aabe663b82f6f04ef2777", "80c0dbf239224071c59dd8970ab9d542e3414ab2"},
		{"fffffffffffffffffffffffffffffffebaaedce6af48a03bbfd25e8cd036413f", "c6047f9441ed7d6d3045406e95c07cd85c778e4b8cef3ca7abac09b95c709ee5", "e51e970159c23cc65c3a7be6b99315110809cd9acd992f1edc9bce55af301705", "92d48ff5523c9b04aa426191b4bd21e6080f074a"},
		{"7fffffffffffffffffffffffffffffff5d576e7357a4501ddfe92f46681b20a0", "00000000000000000000003b78ce563f89a0ed9414f5aa28ad0d96d6795f9c63", "3f3979bf72ae8202983dc989aec7f2ff2ed91bdd69ce02fc0700ca100e59ddf3", "3b3c67f57f74ce72a02978b0492620b1a661da43"},
		{"7fffffffffffffffffffffffffffffff5d576e7357a4501ddfe92f46681b20a1", "00000000000000000000003b78ce563f89a0ed9414f5aa28ad0d96d6795f9c63", "c0c686408d517dfd67c2367651380d00d126e4229631fd03f8ff35eef1a61e3c", "3be94bc74d6898509f726419b93a66b3bd899642"},
		{"8000000000000000000000000000000000000000000000000000000000000000", "b23790a42be63e1b251ad6c94fdef07271ec0aada31db6c3e8bd32043f8be384", "fc6b694919d55edbe8d50f88aa81f94517f004f4149ecb58d10a473deb19880e", "a71e43be339f9791235641f457c1ba2da86b9eb3"},
		{"10000000000000000", "3322d401243c4e2582a2147c104d6ecbf774d163db0f5e5313b7e0e742d0e6bd", "56e70797e9664ef5bfb019bc4ddaf9b72805f63ea2873af624f3a2e96c28b2a0", "44f21d77c05292a23ef24809657d5361d2d079f4"},
		{"ffffffffffffffffffffffffffffffff", "6c034fd8cc8bd548e12569b630710400e6c24a05d9d6b32f08522a241e936da8", "47ec36379eabcb793bfa408f7898ea619798b51289138f979b8eb3fd33d25f15", "420a8a3f198ca29091398f8a3afd7118fcf308e6"},
		{"ad38835eddd6ff552fa73207237751aa4462ebfc5f915ef09cfbac6e7687a66e", "020c5ed16f610b0fe86e27a4b7f2bcfb95ba1a029fab244f230fc9cf6030571e", "f2f992388d2e8dc00d096bf6dae2da5d77a0015b9e8c8dbc1c3ab8322afe64ee", "ba446d3b48a684b7d1a5a0f63734e9cc9b262d7b"},
		{"558298e214b044d79acd8acde5f6db1d76b6745180b65386569c803601a5ba50", "186ae0382dfbe608ac34af0aa068e88baee82e04a63b07c0a1d7367e144bce8a", "50f6f32bd8f760a05c8cabcca15b3f55bed5bb7b993bf08acf23118cef619ca0", "21ad46c491a2afc5bb5d2f22de9109edc5f27394"},
		{"2b5ebaa061076dc3ba6ace6c0a78250fb339a4769ddcc6f8efb6fbfe8de4ab47", "ad49bb12eba4eb024a36c25bac82950b1128b4bb665f26fd3a8a71665e86eef6", "ce1a7c3517f4adee30dd9e423a56f82b8e44129ac89b2cc6e37f5cd8b4930a49", "13ba5c717324b80c736f745bd4e73a99c3bdc164"},
		{"2b1e1885283b73a66c2ea417b99de255f386825473b7a490f23b2cc4b4174a67", "200270a68aa37300ef6d6468592091ed84ecac2723c67b4eff4795d57ae6ea43", "e8fea43d1133717b79555305c3f3d4d075a3fc9da97e42aa14c60429cfd484de", "12b1d652f317f0bc84bec547129b6fb52ecd8da7"},
		{"fdb119a9ec801bdfdf2965b3819ad93b21e6a46f1c670ea90d243a163cee5e2c", "bb0d5938a788b777ceb632d050ff5faf21eeee1b515bf0e0938b8cd850b76f0a", "c53b97b63cb4ea56e843fa03e4e7d1e98932d84acfbb7b3351a43a43ebfadc12", "183b6e206a601ad122e105a52d6e6a1ab98ca354"},
		{"e323bb2abf00188dca22e4c76237dbe6b03da701c632976a10363c5f972651da", "e097dc4887986bb6ff738601bc426687216da8a24f45867e8777b2a5c8e98141", "765e8a97854380591430692375766c2bb08527cb6d34eb47b638c093a7883cd0", "0993eaaf59d17a499f209b4cf124407d383bce46"},
	} {
		want := api.Point{X: hex(x.x), Y: hex(x.y)}
		same(t, "Public", public(t, hex(x.key)), want, x.key)
		got, e := sign.Address(want)
		same(t, "Address' error", e, api.OK, x.key)
		same(t, "Address", got, address(x.who), x.key)
		got, e = sign.Of(hex(x.key))
		same(t, "Of's error", e, api.OK, x.key)
		same(t, "Of", got, address(x.who), x.key)
	}
}

func TestP9_1Public(t *testing.T) {
	for _, key := range keys(draw(1), 60) {
		p := public(t, key)
		same(t, "Public", p, times(toBig(key), curve.Base()), key)
		got, e := sign.Of(key)
		same(t, "Of's error", e, api.OK, key)
		same(t, "Of", got, toldAddress(p), key)
	}
}

func TestP9_1Refused(t *testing.T) {
	for _, key := range outer() {
		p, e := sign.Public(key)
		same(t, "Public's error", e, api.ErrArg, key)
		same(t, "Public", p, none(), key)
		a, e := sign.Of(key)
		same(t, "Of's error", e, api.ErrArg, key)
		same(t, "Of", a, api.Address{}, key)
	}
}

func TestP9_1Address(t *testing.T) {
	for _, p := range points(draw(2), 60) {
		got, e := sign.Address(p)
		same(t, "Address' error", e, api.OK, p)
		same(t, "Address", got, toldAddress(p), p)
	}
	for _, p := range strangers() {
		got, e := sign.Address(p)
		same(t, "Address' error", e, api.ErrCurve, p)
		same(t, "Address", got, api.Address{}, p)
	}
	for _, p := range nones() {
		got, e := sign.Address(p)
		same(t, "Address' error", e, api.ErrZero, p)
		same(t, "Address", got, api.Address{}, p)
	}
}

package field_test

import (
	"math/big"
	"testing"

	"bailiwick/api"
	"bailiwick/field"
	"bailiwick/word"
)

func TestP7_3Moduli(t *testing.T) {
	two := func(k uint) *big.Int { return new(big.Int).Lsh(big.NewInt(1), k) }
	p := new(big.Int).Sub(two(256), two(32))
	p.Sub(p, big.NewInt(977))
	n, _ := new(big.Int).SetString("fffffffffffffffffffffffffffffffebaaedce6af48a03bbfd25e8cd0364141", 16)
	base, _ := new(big.Int).SetString("21888242871839275222246405745257275088696311157297823662689037894645226208583", 10)
	for _, x := range []struct {
		name string
		make func() *field.Field
		want *big.Int
	}{
		{"Curve", field.Curve, p}, {"Order", field.Order, n}, {"Base", field.Base, base},
	} {
		for range 2 {
			same(t, "Modulus", toBig(x.make().Modulus()).String(), x.want.String(), x.name)
		}
		if !x.want.ProbablyPrime(20) {
			t.Fatalf("%s is modulo %v, which is no prime number", x.name, x.want)
		}
	}
}

// They reckon as the fields that New makes.
func TestP7_3AsNew(t *testing.T) {
	d := draw(13)
	for i, f := range []*field.Field{field.Curve(), field.Order(), field.Base()} {
		m := curves()[i]
		made := of(t, m)
		l := numbers(d, m)
		for _, a := range l {
			b := pick(d, l)
			same(t, "Of", f.Of(a), made.Of(a), i, a)
			same(t, "Add", f.Add(a, b), made.Add(a, b), i, a, b)
			same(t, "Sub", f.Sub(a, b), made.Sub(a, b), i, a, b)
			same(t, "Mul", f.Mul(a, b), made.Mul(a, b), i, a, b)
			same(t, "Exp", f.Exp(a, b), made.Exp(a, b), i, a, b)
		}
	}
}

// Pinned answers, made by a second program: of a and b their sum, product and power, and a's inverse and root, if it has one.
func TestP7_3Answers(t *testing.T) {
	for _, x := range []struct {
		make                                     func() *field.Field
		a, b, sum, product, power, inverse, root string
	}{
		{field.Curve, "e7fc2e46e57ddc98fa831fc3b6285c630efa89924a749e71cc1299cc2d6efc41", "115743340b1695a7bd3a21848774ad1cbe5812ff8de917e0a4ab61b72ad6d18b", "f953717af0947240b7bd41483d9d097fcd529c91d85db65270bdfb835845cdcc", "17ee2b3045f5dd2b6c03f9bbfc62f1c86d7b50235cd96c83b63e597a68a49a3c", "1146ff4649fd93e3b2f32d0b87fd39b2e5a8a83b784c1ac0c381a102eec45c26", "b458825bc8515a9425b9823683443b59e1f961db70f08e4215f137efe736d98e", "223d70c277eca07ffb630d333ab5d8babd388415ddb283509e834e3c2a1038fe"},
		{field.Curve, "042a5f2e7634c4c80a75691b6b89dfe4e1758558ce99e7346b5297b68fa95d11", "dc67949bdca3c2e1bb86890c76a58a0faf09d5b1493daa9d18411e7210f81260", "e091f3ca52d887a9c5fbf227e22f69f4907f5b0a17d791d18393b628a0a16f71", "eff2925364e54f051cbc034fd41ec5b4c5d6a2dfb77acabe3e88deebc0b8e481", "11135e377f3c2f1f69757e4d84582f8dca21d3a23d5fa8761963a6597bf47edf", "0bab506293cf8ea83f09b342a7942bacd8d5d9813e7dab7ddac365e82b3abf01", "cc4a1811c6903cfe0d21de1474573368a530ec20f4bc3c11bd3f725bba47f07b"},
		{field.Curve, "485a5284313792d17cc4c26c521579cdcf10ccce772fdb2ab723efda436e7a86", "37ade19274fe0a50554f1ba38fe40bb77ddeee0e1079ab6d637fd886836417ec", "80083416a6359d21d213de0fe1f985854cefbadc87a986981aa3c860c6d29272", "e00273527879c3cff84d1d16e4445d4bff93fcfc0a094941bb99c4b5f172a6ca", "83e606f744a87693d71c0b09c117912c4c2b263a3c808cbfd0803c893712798c", "6c54a5bd0611a94171f509797e977bbcde764a3ca36b2aa3a6bda0c015ebcd69", "3218cb8cc736dd15c43abd4ed55fa4f78e32340db539e69907699b0a3952f445"},
		{field.Order, "e7fc2e46e57ddc98fa831fc3b6285c630efa89924a749e71cc1299cc2d6efc41", "115743340b1695a7bd3a21848774ad1cbe5812ff8de917e0a4ab61b72ad6d18b", "f953717af0947240b7bd41483d9d097fcd529c91d85db65270bdfb835845cdcc", "13dff8b19b02695362bd462d0b40bbaabc843b9aa8b5b93062418873a95a94a7", "191a74255b91e53715c31295c3ecbe0ad01ebaeffea046a79d0f6320a3ba597d", "637bc3f51f3c9e2290c4def39719db70d02578e6f92c761f67c41189f1f769e8", ""},
		{field.Order, "042a5f2e7634c4c80a75691b6b89dfe4e1758558ce99e7346b5297b68fa95d11", "dc67949bdca3c2e1bb86890c76a58a0faf09d5b1493daa9d18411e7210f81260", "e091f3ca52d887a9c5fbf227e22f69f4907f5b0a17d791d18393b628a0a16f71", "2f54c1c2277bcb63432c4fbb706f40f31e7a013415bf3052db77976338b4ce7f", "7a164823f1775ff4b45a5a9f77e4ebe5102dd3021b68b0f667b6877e73c0bacf", "a5bd66bdfc7aa94ca93467b79bf87dacddb5d7e1077d19ee312b3c4b8af1eb04", ""},
		{field.Order, "e502d75f7ef96dda7f39bda87c8709126fcb2c6b88c004547e065e464c5565e6", "37ade19274fe0a50554f1ba38fe40bb77ddeee0e1079ab6d637fd886836417ec", "1cb0b8f1f3f7782ad488d94c0c6b14cb32fb3d92e9f10f8621b3d83fff833c91", "9f607dd66d531704c1d73b8331ce9aae8f5ba33404af8bf106cdd5058a3e422d", "cfaec9975251d7e898bb8cca5281f7d0697fa773a9ac18475e58b559f434e19a", "86905fe4f203511be15c1cb1516b035418d812bf310893f71d8455eaacc483b4", ""},
		{field.Base, "e7fc2e46e57ddc98fa831fc3b6285c630efa89924a749e71cc1299cc2d6efc41", "115743340b1695a7bd3a21848774ad1cbe5812ff8de917e0a4ab61b72ad6d18b", "075de93c8a9c51701e2be4b7b6164fabd7cb87bace24c190441b3f111dd4db69", "101b8b3d5ab511af18e11360b7751a188cc7215281116fca231424e5fe2ff036", "0e9326d8fff9c66fc55fda834fb39c2ab9cdce7d568ffcd1c0d782d8f321ff2e", "0bf56733fad1109207a439ec39ce1e12fd92468e8b951b062cccf9063c8221da", ""},
		{field.Base, "042a5f2e7634c4c80a75691b6b89dfe4e1758558ce99e7346b5297b68fa95d11", "dc67949bdca3c2e1bb86890c76a58a0faf09d5b1493daa9d18411e7210f81260", "1f00b9fece120702e4badb4ddc2a087e3279b0c47610679c931185cd3ead7a55", "108f12e03637cb6870f8317f59271aba7109baf52af346438cf4722b3cacc856", "0f67f69e7345a7f9e2a1ade4ebd2eba66ede5e76e231e8fcdbdeb352dac212fc", "2af2680c4c57f531596e4eccbae69523cf3c88a4e2e5345e10a1e976f68ab943", ""},
		{field.Base, "0bf97a07be5a8135fb6c73e302092f2d42e9ce614edd1cfd7fc787e6831006e8", "37ade19274fe0a50554f1ba38fe40bb77ddeee0e1079ab6d637fd886836417ec", "13430d275226eb5c986b49d0106be287294751ddf6e4fddda726d4562df7218d", "2bff88388c11feabdc90927e0e1d548b9513f040f8dbd2f4d334afe18ca02de3", "013ab6e5e4cccc0ad824750f59ad995a2c7437997e22b7c55ecc2450a7bc5f21", "13b4757370b0448212c5a95ec70dc8c3c95c4837fc3634a6eefb43738ec484cf", "0c55faa7b402a2435a842bd7249af99213c821aca8feef320814349964b912ce"},
	} {
		f := x.make()
		a, b := fromHex(t, x.a), fromHex(t, x.b)
		same(t, "Add", f.Add(a, b), fromHex(t, x.sum), x.a, x.b)
		same(t, "Sub", f.Sub(fromHex(t, x.sum), b), f.Of(a), x.a, x.b)
		same(t, "Mul", f.Mul(a, b), fromHex(t, x.product), x.a, x.b)
		same(t, "Exp", f.Exp(a, b), fromHex(t, x.power), x.a, x.b)
		got, is := f.Inv(a)
		same(t, "Inv", got, fromHex(t, x.inverse), x.a)
		same(t, "whether Inv", is, true, x.a)
		var want api.Word
		if x.root != "" {
			want = fromHex(t, x.root)
		}
		got, is = f.Sqrt(a)
		same(t, "Sqrt", got, want, x.a)
		same(t, "whether Sqrt", is, x.root != "", x.a)
	}
}

// The bases of the curves lie on them: Y is a root of X X X and 7, or 3, or its Neg is.
func TestP7_3Bases(t *testing.T) {
	for _, x := range []struct {
		f    *field.Field
		x, y string
		more uint64
	}{
		{field.Curve(), "79be667ef9dcbbac55a06295ce870b07029bfcdb2dce28d959f2815b16f81798", "483ada7726a3c4655da4fbfc0e1108a8fd17b448a68554199c47d08ffb10d4b8", 7},
		{field.Base(), "1", "2", 3},
	} {
		at, y := fromHex(t, x.x), fromHex(t, x.y)
		square := x.f.Add(x.f.Mul(x.f.Mul(at, at), at), word.Of(x.more))
		same(t, "the square of Y", x.f.Mul(y, y), square, x.x)
		same(t, "the power 3 of X", x.f.Exp(at, word.Of(3)), x.f.Sub(square, word.Of(x.more)), x.x)
		got, is := x.f.Sqrt(square)
		same(t, "whether Sqrt", is, true, x.x)
		if got != y {
			same(t, "Neg of the root", x.f.Neg(got), y, x.x)
		}
	}
}

// The order of the keys has the rest 1 by 4: no roots are found in its field.
func TestP7_3OrderHasNoRoots(t *testing.T) {
	d := draw(14)
	for _, a := range numbers(d, curves()[1]) {
		got, is := field.Order().Sqrt(a)
		same(t, "Sqrt", got, api.Word{}, a)
		same(t, "whether Sqrt", is, false, a)
	}
}

package curve_test

import (
	"math/big"
	"testing"

	"bailiwick/api"
	"bailiwick/curve"
	"bailiwick/word"
)

// neg, add, mul and two are what the calls of these names answer for points on the curve.
func neg(t *testing.T, p api.Point) api.Point {
	t.Helper()
	out, e := curve.Neg(p)
	same(t, "Neg's error", e, api.OK, p)
	return out
}

func add(t *testing.T, p, q api.Point) api.Point {
	t.Helper()
	out, e := curve.Add(p, q)
	same(t, "Add's error", e, api.OK, p, q)
	return out
}

func mul(t *testing.T, k api.Word, p api.Point) api.Point {
	t.Helper()
	out, e := curve.Mul(k, p)
	same(t, "Mul's error", e, api.OK, k, p)
	return out
}

func two(t *testing.T, j api.Word, p api.Point, k api.Word, q api.Point) api.Point {
	t.Helper()
	out, e := curve.Two(j, p, k, q)
	same(t, "Two's error", e, api.OK, j, p, k, q)
	return out
}

func TestP8_2Neg(t *testing.T) {
	for _, p := range some(draw(11), 60) {
		same(t, "Neg", neg(t, p), toldNeg(p), p)
	}
	for _, p := range nones() {
		same(t, "Neg", neg(t, p), none(), p)
	}
}

func TestP8_2Add(t *testing.T) {
	all := some(draw(12), 16)
	for _, p := range all[1:] {
		all = append(all, toldNeg(p))
	}
	for _, p := range all {
		for _, q := range all {
			same(t, "Add", add(t, p, q), toldSum(p, q), p, q)
		}
		same(t, "Add of p and its Neg", add(t, p, toldNeg(p)), none(), p)
		for _, q := range nones() {
			same(t, "Add of None", add(t, p, q), p, p, q)
			same(t, "Add of None", add(t, q, p), p, q, p)
		}
	}
	for _, p := range nones() {
		for _, q := range nones() {
			same(t, "Add of None and None", add(t, p, q), none(), p, q)
		}
	}
}

// level are p and the two other points of its Y: its X times a number whose third power is 1.
func level(p api.Point) [3]api.Point {
	third := number("7ae96a2b657c07106e64479eac3434e99cf0497512f58995c1396c28719501ee")
	out := [3]api.Point{p, p, p}
	for i := range out[1:] {
		out[i+1].X = fromBig(modulo(new(big.Int).Mul(toBig(out[i].X), third)))
	}
	return out
}

// The line through two points of one Y goes through the third one.
func TestP8_2AddLevel(t *testing.T) {
	d := draw(18)
	for _, p := range some(d, 20)[1:] {
		l := level(p)
		for i := range l {
			one, other, third := l[i], l[(i+1)%3], l[(i+2)%3]
			same(t, "On", curve.On(one), true, one)
			same(t, "Add", add(t, one, other), toldNeg(third), one, other)
			same(t, "Add", add(t, other, one), toldNeg(third), other, one)
			same(t, "Add to the Neg of the third", add(t, add(t, one, other), third), none(), one, other)
			k := drawn(d)
			want := toldNeg(mul(t, k, third))
			same(t, "Two", two(t, k, one, k, other), want, k, one, other)
		}
	}
}

func TestP8_2AddExample(t *testing.T) {
	want := at("c6047f9441ed7d6d3045406e95c07cd85c778e4b8cef3ca7abac09b95c709ee5", "1ae168fea63dc339a3c58419466ceaeef7f632653266d0e1236431a950cfe52a")
	same(t, "Add", add(t, curve.Base(), curve.Base()), want)
}

// All sums of few times a point, in either direction: each is a point that is known.
func TestP8_2AddTable(t *testing.T) {
	const most = 16
	for _, p := range some(draw(13), 6)[1:] {
		var times [4*most + 1]api.Point
		times[2*most] = none()
		for i := range 2 * most {
			times[2*most+i+1] = toldSum(times[2*most+i], p)
			times[2*most-i-1] = toldNeg(times[2*most+i+1])
		}
		for i := -most; i <= most; i++ {
			for j := -most; j <= most; j++ {
				same(t, "Add", add(t, times[2*most+i], times[2*most+j]), times[2*most+i+j], p, i, j)
			}
		}
		for k := range uint64(2 * most) {
			same(t, "Mul", mul(t, word.Of(k), p), times[2*most+k], k, p)
		}
	}
}

// Pinned answers, made by a second program: so many times Base.
func TestP8_2MulAnswers(t *testing.T) {
	for _, x := range []struct{ k, x, y string }{
		{"1", "79be667ef9dcbbac55a06295ce870b07029bfcdb2dce28d959f2815b16f81798", "483ada7726a3c4655da4fbfc0e1108a8fd17b448a68554199c47d08ffb10d4b8"},
		{"2", "c6047f9441ed7d6d3045406e95c07cd85c778e4b8cef3ca7abac09b95c709ee5", "1ae168fea63dc339a3c58419466ceaeef7f632653266d0e1236431a950cfe52a"},
		{"3", "f9308a019258c31049344f85f89d5229b531c845836f99b08601f113bce036f9", "388f7b0f632de8140fe337e62a37f3566500a99934c2231b6cb9fd7584b8e672"},
		{"7", "5cbdf0646e5db4eaa398f365f2ea7a0e3d419b7e0330e39ce92bddedcac4f9bc", "6aebca40ba255960a3178d6d861a54dba813d0b813fde7b5a5082628087264da"},
		{"aa5e28d6a97a2479a65527f7290311a3624d4cc0fa1578598ee3c2613bf99522", "34f9460f0e4f08393d192b3c5133a6ba099aa0ad9fd54ebccfacdfa239ff49c6", "0b71ea9bd730fd8923f6d25a7a91e7dd7728a960686cb5a901bb419e0f2ca232"},
		{"fffffffffffffffffffffffffffffffebaaedce6af48a03bbfd25e8cd036413f", "c6047f9441ed7d6d3045406e95c07cd85c778e4b8cef3ca7abac09b95c709ee5", "e51e970159c23cc65c3a7be6b99315110809cd9acd992f1edc9bce55af301705"},
		{"fffffffffffffffffffffffffffffffebaaedce6af48a03bbfd25e8cd0364140", "79be667ef9dcbbac55a06295ce870b07029bfcdb2dce28d959f2815b16f81798", "b7c52588d95c3b9aa25b0403f1eef75702e84bb7597aabe663b82f6f04ef2777"},
		{"fffffffffffffffffffffffffffffffebaaedce6af48a03bbfd25e8cd0364142", "79be667ef9dcbbac55a06295ce870b07029bfcdb2dce28d959f2815b16f81798", "483ada7726a3c4655da4fbfc0e1108a8fd17b448a68554199c47d08ffb10d4b8"},
		{"8000000000000000000000000000000000000000000000000000000000000000", "b23790a42be63e1b251ad6c94fdef07271ec0aada31db6c3e8bd32043f8be384", "fc6b694919d55edbe8d50f88aa81f94517f004f4149ecb58d10a473deb19880e"},
		{"fffffffffffffffffffffffffffffffffffffffffffffffffffffffffffffffe", "e0a65740c1c5148111a8305938c56322fbf345a18cb90cf48a788961c6b3ff91", "8aaf0580fd9e8be571e97bef4a067fa7911da0ff0e1a5f307fea63e3ecd903af"},
		{"ffffffffffffffffffffffffffffffffffffffffffffffffffffffffffffffff", "9166c289b9f905e55f9e3df9f69d7f356b4a22095f894f4715714aa4b56606af", "f181eb966be4acb5cff9e16b66d809be94e214f06c93fd091099af98499255e7"},
		{"d1a5ac9a015fac2ef7b341673635512a1511f41fe37d111b267f039eec5d4f58", "fb83010b740a7839eebb9a126f69140b85ab9c81c7487b05da2565e6c7cccbb5", "ce6c67cc671dacf016a5c97bba0adb162a5115c37771183129d6b8a795126b4f"},
		{"6ab9f1eb8f7d3388f4f9d586f66e99fd54080df2c446f0e58668b09c08a16dd0", "669b8afcec803a0d323e9a17f3ea8e68e8abe5a278020a929adbec52421adbd0", "aab114c000d9df3220ded4a4576d29024f5c2b709ec3573ac96f9e768f8648ed"},
		{"015f7e6bc5aeaf483724089e9252cc13b50951a6b69412522765cff4d780306e", "60b2003c386519fc9eadf2b5cf124dd8eea4c4e68d5e154050a9346ea98ce600", "126a4b1e1929540fb3507fb82a8ac47829176f8db52da97278c288896fe17992"},
	} {
		same(t, "Mul", mul(t, hex(x.k), curve.Base()), at(x.x, x.y), x.k)
	}
}

func TestP8_2Mul(t *testing.T) {
	d := draw(14)
	all := some(d, 12)
	l := numbers(d, 10)
	for _, k := range l {
		p := pick(d, all[1:])
		same(t, "Mul", mul(t, k, p), toldTimes(k, p), k, p)
		for _, p := range nones() {
			same(t, "Mul of None", mul(t, k, p), none(), k, p)
		}
	}
	for _, p := range all {
		same(t, "no times p", mul(t, api.Word{}, p), none(), p)
		same(t, "one time p", mul(t, word.Of(1), p), p, p)
		same(t, "twice p", mul(t, word.Of(2), p), toldSum(p, p), p)
	}
}

// Pinned answers, made by a second program: j, p, k, q, the sum of p and q, and Two of them.
func TestP8_2TwoAnswers(t *testing.T) {
	for _, x := range [][10]string{
		{"e1c304c89beebdf86c100dad3da5c68d8b006d7efcc8166f57f39fcc08c22aa3", "acc9731d02936e34f3917bae6f4e657551bc113821142842650c1257f4f7acd2", "f3f463ff614f88723328d391ee65c837be77339127646ad96bb3e83d38e9d6cc", "8fa2d1f05eba0c8275b6a912afaebbde9191ba188ca5a43c14354ed687c98027", "6652b24d82960362f4736ba40199f140e364c2b37343be47cd7fcb09889e9e2f", "7f6be33fc70a3d9f2c8a5e97cc811d0259575901da7645acf009f56a4363dd76", "bae93dae91e48f89b77145fb8806cf3e46264e0836263df8fd0805ce09689bb5", "adcba5a10457847ee9c2214a62325d02d32daeb26874e91effad1d4eb6f3f421", "f7bb982ee013afdcca8b09ebb93bab8a5c73a89337fd9493c60097c7aee4a3cb", "ebcfdd79749ab0f51901eb519ac4e0450ac911550ba1a5e6de489d8d24acdc76"},
		{"08243666f926aa4e5b884b8ef1fc3b93d19e191a793581530616bd2e032c4761", "dfee9149010ff3ccccedd299532bdf48093d1ef2ff10660c6059e32e6eb88335", "05f1d392d82f0495f9a2f98e997956faf751a22dd5ec71759d2139fa44f2013f", "6ea799169df728d7e4acb061232750c2195685c2db066e634622510293019739", "a90461092dded9c59248313231d15adba5aef7103fe7c2ca0c03bbdd4f4de152", "1c5ef0e4892edc61ec67439ea8fa1751f00f8a3eaa8e4741e583d442f611ef26", "1b472ae11aaf741d6a9d7d1fb1acc23c804dc1422396531577c89a3d89a0738e", "9fe40d7aaffd70943285092ce9547baa7731e04bed323d57b3982ad4fc7001c9", "e3a72d69ed87e839b3936d7a5db9a73d1f7a87ce83e481f17a597992c1365394", "7778b129ebecbb377c1b5769fc947589e24ba7c5e8d786422452dd4916d5656d"},
		{"a499068b8f456a03adaf1064efe8fb54c8f0fd204468f27e168642eab19d883b", "e156979a8055687f6cf2254a03c3fc7b9d11d536622a6a482ca914850626332b", "d3e77710b2d728f0e111ee9f23f8f532a545b358f509c683d394aacce293b2f9", "058d942ffac9f7237367363b02c349c4245aa78eabbde39085806074f68a5764", "f2f3b37cf96a2308034947864aa1b8add7dcf1d132e4131c1bcec155f7f95b7c", "c8df9f3f3cc73b19d4b49daed99322f7cf77487ddea2441bedd30dab9535d239", "4e26b2a1960aed32a869817779de734ca0f975215b049f97e3acde067b7d6c2a", "bff43d54d2a5d126343c8538a3815c171ddef06ac98153883083a93da97f3211", "12c07015b221862a0084d01153aaa8224ff1ed74a3e02eed752840c0be2a8851", "804d0e4c6a73caf51ae3e6f0430b26e62cd95ea21d865c0c31e6966e7e23c2c8"},
		{"e73d2c69dab6b3798a4ba95017040d6bb669333591e6d717b349baddddb8b3b3", "39052c148780edcaa2505b4ebbee156ec4f9b183e1d8088d8fa7968a0db232f5", "b2707336a7485cb0433d02d01eff70a9b680999ba533a01b87b7ca173d4efc5b", "280c01dbd9eced7c15f265566dbaf5e423c6162ff00b24a981acac8d3bbeb443", "af84c21da3c9a0935b5b03c97653ab12b41350c9d477af405a7b3bec3ecfbbc0", "87bcd7430901f1d8454c32b6438a55e00772361300e8663924ec7ba10a52cf1a", "99812447d33d6bd204bbc1d05f74540bf3dfd5ed8b7d1dc3277546707cd868ff", "9ae49823fda4443c03e87c83c17214f6bc83f49eee3cb9e8da6687508a6db2dd", "e7dac20e4c06e3c6392b8977edb6797362d578caaf02a5e04d16ac17bfc159e2", "aeb3ea4b17653f7dcd2534d971e476aa1b04c8041d9f81ee84fc227806f259eb"},
	} {
		p, q := at(x[1], x[2]), at(x[4], x[5])
		same(t, "Add", add(t, p, q), at(x[6], x[7]), p, q)
		same(t, "Two", two(t, hex(x[0]), p, hex(x[3]), q), at(x[8], x[9]), x[0], p, x[3], q)
	}
}

func TestP8_2Two(t *testing.T) {
	d := draw(15)
	all := some(d, 12)
	l := numbers(d, 20)
	for _, j := range l {
		p, k, q := pick(d, all), pick(d, l), pick(d, all)
		want := add(t, mul(t, j, p), mul(t, k, q))
		same(t, "Two", two(t, j, p, k, q), want, j, p, k, q)
		same(t, "Two turned about", two(t, k, q, j, p), want, k, q, j, p)
	}
	for range 6 {
		j, p, k, q := drawn(d), pick(d, all), drawn(d), pick(d, all)
		same(t, "Two as told", two(t, j, p, k, q), toldSum(toldTimes(j, p), toldTimes(k, q)), j, p, k, q)
	}
}

// The two points may be one, or each other's Neg, or None, and either may be taken no times.
func TestP8_2TwoOfOne(t *testing.T) {
	d := draw(16)
	l := numbers(d, 2)
	for _, k := range l {
		p := pick(d, some(d, 10))
		other := toldNeg(p)
		once := mul(t, k, p)
		twice := toldSum(once, once)
		same(t, "Two of p and p", two(t, k, p, k, p), twice, k, p)
		same(t, "Two of p and its Neg", two(t, k, p, k, other), none(), k, p)
		same(t, "Two of p and no times p", two(t, k, p, api.Word{}, p), once, k, p)
		same(t, "Two of no times p and p", two(t, api.Word{}, p, k, p), once, k, p)
		for _, q := range nones() {
			same(t, "Two of p and None", two(t, k, p, k, q), once, k, p, q)
			same(t, "Two of None and p", two(t, k, q, k, p), once, k, q, p)
		}
	}
	for j := range uint64(10) {
		for k := range uint64(10) {
			want := mul(t, word.Of(j+k), curve.Base())
			same(t, "Two of Base", two(t, word.Of(j), curve.Base(), word.Of(k), curve.Base()), want, j, k)
		}
	}
	same(t, "Two of None and None", two(t, word.Of(5), nones()[1], word.Of(6), nones()[2]), none())
}

// A refusal is None and ErrCurve, whichever point it is for, and however many times that is taken.
func refused(t *testing.T, what string, p api.Point, e api.Errno, of ...any) {
	t.Helper()
	same(t, what, p, none(), of...)
	same(t, what+"'s error", e, api.ErrCurve, of...)
}

func TestP8_2Refused(t *testing.T) {
	d := draw(17)
	good := append(some(d, 8), nones()...)
	for _, p := range strangers() {
		q, k := pick(d, good), pick(d, edges())
		got, e := curve.Neg(p)
		refused(t, "Neg", got, e, p)
		got, e = curve.Add(p, q)
		refused(t, "Add", got, e, p, q)
		got, e = curve.Add(q, p)
		refused(t, "Add", got, e, q, p)
		got, e = curve.Add(p, p)
		refused(t, "Add", got, e, p, p)
		for _, k := range []api.Word{{}, word.Of(1), k} {
			got, e = curve.Mul(k, p)
			refused(t, "Mul", got, e, k, p)
			got, e = curve.Two(k, p, k, q)
			refused(t, "Two", got, e, k, p, q)
			got, e = curve.Two(word.Of(1), q, k, p)
			refused(t, "Two", got, e, q, k, p)
			got, e = curve.Two(k, p, word.Of(1), p)
			refused(t, "Two", got, e, k, p, p)
		}
	}
}

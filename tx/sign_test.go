package tx_test

import (
	"testing"

	"bailiwick/api"
	"bailiwick/keccak"
	"bailiwick/sign"
	"bailiwick/tx"
	"bailiwick/word"
)

// keys are some keys that can be.
func keys() []api.Word {
	return []api.Word{word.Of(1), word.Of(2), {7, 7, 7, 7}, half(), word.Sub(order(), word.Of(1))}
}

// strange are numbers that are no key, no R and no S.
func strange() []api.Word {
	return []api.Word{{}, order(), word.Add(order(), word.Of(1)), most(), word.Sub(most(), word.Of(1))}
}

func signedOf(t *testing.T, x api.Tx) api.Hash {
	t.Helper()
	h, e := tx.Signed(x)
	same(t, "Signed's error", e, api.OK, x)
	return h
}

// made is x with key's signature.
func made(t *testing.T, x api.Tx, key api.Word) api.Tx {
	t.Helper()
	out, e := tx.Sign(x, key)
	same(t, "Sign's error", e, api.OK, x)
	return out
}

// of holds Sender to an answer.
func of(t *testing.T, x api.Tx, want api.Address, error api.Errno) {
	t.Helper()
	got, e := tx.Sender(x)
	same(t, "Sender's error", e, error, x)
	same(t, "Sender", got, want, x)
}

func TestP15_3Hash(t *testing.T) {
	for _, x := range samples(41, 1500) {
		h, e := tx.Hash(x)
		same(t, "Hash's error", e, api.OK, x)
		same(t, "Hash", h, keccak.Sum([]byte(toldBytes(x))), x)
	}
	for _, x := range kinds() {
		x.Data = counted(1 << 17)
		h, e := tx.Hash(x)
		same(t, "Hash's error", e, api.OK, x)
		same(t, "Hash", h, keccak.Sum([]byte(toldBytes(x))), x)
	}
}

func TestP15_3Signed(t *testing.T) {
	for _, x := range samples(42, 1500) {
		want := keccak.Sum([]byte(toldSigned(x)))
		same(t, "Signed", signedOf(t, x), want, x)
		for _, s := range []api.Sig{{}, {V: 1}, {R: most(), S: most(), V: 1}, {R: word.Of(1), S: order()}} {
			x.Sig = s
			same(t, "Signed", signedOf(t, x), want, x)
		}
	}
	for _, x := range kinds() {
		for _, chain := range chains() {
			x.Chain = chain
			same(t, "Signed", signedOf(t, x), keccak.Sum([]byte(toldSigned(x))), x)
		}
		x.Data = counted(1 << 17)
		same(t, "Signed", signedOf(t, x), keccak.Sum([]byte(toldSigned(x))), x)
	}
}

func TestP15_3Sign(t *testing.T) {
	for _, x := range samples(43, 60) {
		for _, key := range keys() {
			s, e := sign.Sign(key, keccak.Sum([]byte(toldSigned(x))))
			same(t, "the error of sign's Sign", e, api.OK)
			want := changed(x, func(x *api.Tx) { x.Sig = s })
			alike(t, "Sign", made(t, x, key), want, x)
			alike(t, "Sign of what is signed", made(t, want, keys()[0]), made(t, x, keys()[0]), x)
		}
	}
}

func TestP15_3SignNoKey(t *testing.T) {
	for _, x := range kinds() {
		for _, key := range strange() {
			y, e := tx.Sign(x, key)
			same(t, "Sign's error", e, api.ErrArg, x)
			alike(t, "Sign", y, api.Tx{}, x)
		}
	}
}

func TestP15_3Sender(t *testing.T) {
	for _, x := range samples(44, 300) {
		if !sign.Low(x.Sig) {
			of(t, x, api.Address{}, api.ErrForm)
			x.Sig.S = word.Shr(word.Of(2), x.Sig.S)
		}
		want, e := sign.Who(keccak.Sum([]byte(toldSigned(x))), x.Sig)
		of(t, x, want, e)
	}
}

// The signature that is not low has the same sender, to sign; here it has none.
func TestP15_3SenderHigh(t *testing.T) {
	for _, x := range kinds() {
		x = made(t, x, word.Of(3))
		want, _ := sign.Of(word.Of(3))
		of(t, x, want, api.OK)
		high := x
		high.Sig.S, high.Sig.V = word.Sub(order(), x.Sig.S), 1-x.Sig.V
		who, e := sign.Who(signedOf(t, x), high.Sig)
		same(t, "the error of sign's Who", e, api.OK)
		same(t, "sign's Who", who, want)
		of(t, high, api.Address{}, api.ErrForm)
		for _, s := range []api.Word{word.Add(half(), word.Of(1)), word.Sub(order(), word.Of(1)), order(), most()} {
			high.Sig.S = s
			of(t, high, api.Address{}, api.ErrForm)
			high.Sig.R = api.Word{}
			of(t, high, api.Address{}, api.ErrForm)
			high.Sig.R = x.Sig.R
		}
		x.Sig.S = half()
		who, e = sign.Who(signedOf(t, x), x.Sig)
		same(t, "the error of sign's Who", e, api.OK)
		of(t, x, who, api.OK)
	}
}

// What sign refuses, and as what.
func TestP15_3SenderRefused(t *testing.T) {
	for _, x := range kinds() {
		good := made(t, x, word.Of(3))
		for _, r := range strange() {
			x = good
			x.Sig.R = r
			of(t, x, api.Address{}, api.ErrArg)
		}
		x = good
		x.Sig.S = api.Word{}
		of(t, x, api.Address{}, api.ErrArg)
		x.Sig = api.Sig{}
		of(t, x, api.Address{}, api.ErrArg)
		found := 0
		for n := range uint64(20) {
			x = good
			x.Sig.R = word.Of(n + 1)
			want, e := sign.Who(signedOf(t, x), x.Sig)
			if e == api.ErrSeal {
				found++
			}
			of(t, x, want, e)
		}
		same(t, "whether some R are of no point", found > 3 && found < 17, true)
	}
}

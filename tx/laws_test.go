package tx_test

import (
	"testing"

	"bailiwick/api"
	"bailiwick/sign"
	"bailiwick/tx"
	"bailiwick/word"
)

func TestP15_5DecodeOfEncode(t *testing.T) {
	for _, x := range samples(61, 5000) {
		alike(t, "Decode of Encode", decoded(t, bytesOf(t, x)), x)
	}
	for _, x := range kinds() {
		x.Data = counted(1 << 17)
		if x.Type > 0 {
			x.Access = reach(100, 200, 300, 420)
		}
		alike(t, "Decode of Encode", decoded(t, bytesOf(t, x)), x)
	}
}

// What Decode tells of any bytes has just these bytes: so no transaction has two forms.
func TestP15_5EncodeOfDecode(t *testing.T) {
	d := draw(62)
	found := 0
	for range 40_000 {
		b := bytesOf(t, drawn(d))
		for range d.IntN(3) {
			b[d.IntN(len(b))] = byte(d.Uint32())
		}
		x, e := tx.Decode(b)
		if e == api.OK {
			found++
			same(t, "Check", tx.Check(x), api.OK, x)
			equal(t, "Encode of Decode", bytesOf(t, x), b, x)
		}
	}
	if found < 15_000 {
		t.Fatalf("%d of the bytes are a transaction's", found)
	}
}

func TestP15_6Whose(t *testing.T) {
	for _, x := range samples(63, 60) {
		for _, key := range keys() {
			want, _ := sign.Of(key)
			y := made(t, x, key)
			of(t, y, want, api.OK)
			of(t, decoded(t, bytesOf(t, y)), want, api.OK)
		}
	}
}

// neighbours are transactions that are like x, each but for one thing.
func neighbours(x api.Tx) []api.Tx {
	var out []api.Tx
	add := func(change func(x *api.Tx)) {
		if y := changed(x, change); tx.Check(y) == api.OK {
			out = append(out, y)
		}
	}
	for kind := range 3 {
		add(func(x *api.Tx) { x.Type = kind })
		add(func(x *api.Tx) { x.Type, x.Access, x.Tip = kind, nil, x.Cap })
	}
	for _, n := range append(chains(), 0) {
		add(func(x *api.Tx) { x.Chain = n })
	}
	for _, n := range ends() {
		add(func(x *api.Tx) { x.Nonce = n })
		add(func(x *api.Tx) { x.Gas = n })
		add(func(x *api.Tx) { x.Nonce, x.Gas = x.Gas, n })
	}
	for _, a := range words() {
		add(func(x *api.Tx) { x.Tip, x.Cap = a, a })
		add(func(x *api.Tx) { x.Tip = a })
		add(func(x *api.Tx) { x.Cap = a })
		add(func(x *api.Tx) { x.Value = a })
	}
	for i := range x.To {
		add(func(x *api.Tx) { x.Create = false; x.To[i] ^= 1 })
	}
	add(func(x *api.Tx) { x.Create, x.To = true, api.Address{} })
	add(func(x *api.Tx) { x.Create, x.To = false, api.Address{} })
	for _, size := range []int{0, 1, 2, 4, 5, 6, 20, 32, 55, 56, 60} {
		add(func(x *api.Tx) { x.Data = counted(size) })
		add(func(x *api.Tx) { x.Data = make([]byte, size) })
	}
	for _, l := range [][]api.Access{nil, reach(0), reach(1), reach(2), reach(0, 0), reach(1, 1), reach(0, 2), reach(2, 0), {{}}, {{}, {}}, {{Keys: make([]api.Hash, 1)}}, {{Address: who(3)}}} {
		add(func(x *api.Tx) { x.Access = l })
	}
	return out
}

// Another transaction, but for its signature, has another Signed.
func TestP15_6Others(t *testing.T) {
	all := map[api.Hash]string{}
	found := 0
	for _, x := range kinds() {
		for _, y := range neighbours(x) {
			for v := range 2 {
				y.Sig.V = v
				h := signedOf(t, y)
				y.Sig = api.Sig{R: word.Of(2)}
				now := text(y)
				was, there := all[h]
				if there {
					same(t, "another transaction of the same Signed", now, was, y)
				} else {
					found++
				}
				all[h] = now
			}
		}
	}
	if found < 3000 {
		t.Fatalf("there are %d unlike transactions", found)
	}
}

// What was signed and then changed is not that key's.
func TestP15_6NotWhose(t *testing.T) {
	want, _ := sign.Of(word.Of(5))
	for _, x := range kinds()[:8] {
		x = made(t, x, word.Of(5))
		of(t, x, want, api.OK)
		for i, y := range neighbours(x) {
			if i%7 > 0 || text(y) == text(x) {
				continue
			}
			who, _ := tx.Sender(y)
			same(t, "whether Sender is the same", who == want, false, y)
		}
	}
}

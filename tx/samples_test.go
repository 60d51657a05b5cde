package tx_test

import (
	"bytes"
	"encoding/hex"
	"fmt"
	"math/big"
	"math/rand/v2"
	"strings"
	"testing"

	"bailiwick/api"
	"bailiwick/tx"
	"bailiwick/word"
)

// draw makes numbers that look like any, and are the same ones in each run.
func draw(seed uint64) *rand.Rand {
	return rand.New(rand.NewPCG(seed, 15))
}

// pick is one of l.
func pick[T any](d *rand.Rand, l ...T) T {
	return l[d.IntN(len(l))]
}

// same holds got against want, and tells of what they are.
func same[T comparable](t *testing.T, what string, got, want T, of ...any) {
	t.Helper()
	if got != want {
		t.Fatalf("%s of %s: got %v, want %v", what, named(of), got, want)
	}
}

// equal holds bytes against others.
func equal(t *testing.T, what string, got, want []byte, of ...any) {
	t.Helper()
	if !bytes.Equal(got, want) {
		t.Fatalf("%s of %s: got %s, want %s", what, named(of), named([]any{got}), named([]any{want}))
	}
}

// alike holds a transaction against another one; lists that are nil or empty are alike.
func alike(t *testing.T, what string, got, want api.Tx, of ...any) {
	t.Helper()
	if text(got) != text(want) {
		t.Fatalf("%s of %s: got %s, want %s", what, named(of), named([]any{got}), named([]any{want}))
	}
}

// text is all that x tells.
func text(x api.Tx) string {
	out := fmt.Sprintf("%d %d %d %x %x %d %x %t %x %x [", x.Type, x.Chain, x.Nonce, x.Tip, x.Cap, x.Gas, x.To, x.Create, x.Value, x.Data)
	for _, a := range x.Access {
		out += fmt.Sprintf("%x %x,", a.Address, a.Keys)
	}
	return out + fmt.Sprintf("] %x %x %d", x.Sig.R, x.Sig.S, x.Sig.V)
}

// named is of what something is told: made only where that is asked for, as it may be long.
func named(of []any) string {
	const most = 1000
	var out []string
	for _, x := range of {
		one := fmt.Sprint(x)
		switch x := x.(type) {
		case api.Tx:
			one = text(x)
		case []byte:
			one = hex.EncodeToString(x)
		}
		if len(one) > most {
			one = one[:most] + " .."
		}
		out = append(out, one)
	}
	return strings.Join(out, ", ")
}

// unhex is the bytes of hexadecimal digits, which may stand in groups.
func unhex(text string) []byte {
	b, err := hex.DecodeString(strings.ReplaceAll(text, " ", ""))
	if err != nil {
		panic(err)
	}
	return b
}

func toBig(a api.Word) *big.Int {
	b := word.Bytes(a)
	return new(big.Int).SetBytes(b[:])
}

func fromBig(x *big.Int) api.Word {
	return word.From(x.Bytes())
}

// order is how many points the curve has whose signatures these are, half that by 2.
func order() api.Word {
	return word.From(unhex("fffffffffffffffffffffffffffffffebaaedce6af48a03bbfd25e8cd0364141"))
}

func half() api.Word {
	return word.Shr(word.Of(1), order())
}

// most is the greatest word.
func most() api.Word {
	return word.Not(api.Word{})
}

// counted is n bytes that count up, from 1 on; as 251 is a prime, no two blocks of them are alike.
func counted(n int) []byte {
	out := make([]byte, n)
	for i := range out {
		out[i] = byte(1 + i%251)
	}
	return out
}

// who is the address of n and hashed a key of n, neither of which is another's.
func who(n int) api.Address {
	return api.Address{byte(n), byte(n >> 8), 7: 1, 19: byte(n + 1)}
}

func hashed(n int) api.Hash {
	return api.Hash{byte(n), byte(n >> 8), 7: 1, 31: byte(n + 1)}
}

// reach is an access list of addresses with so many keys each.
func reach(keys ...int) []api.Access {
	var out []api.Access
	for i, n := range keys {
		a := api.Access{Address: who(i)}
		for j := range n {
			a.Keys = append(a.Keys, hashed(i+j))
		}
		out = append(out, a)
	}
	return out
}

// plain, chained, listed, capped are a transaction of each type, with all that it can have.
func plain() api.Tx {
	price := api.Word{1000, 1}
	return api.Tx{
		Nonce: 300, Tip: price, Cap: price, Gas: 70000, To: who(77), Value: api.Word{5, 6, 7, 8}, Data: []byte{0, 1, 0, 128, 255},
		Sig: api.Sig{R: api.Word{11, 12, 13, 14}, S: api.Word{21, 22, 23, 24}, V: 1},
	}
}

func chained() api.Tx {
	out := plain()
	out.Chain = 9
	return out
}

func listed() api.Tx {
	out := chained()
	out.Type = 1
	out.Access = reach(2, 0, 1)
	return out
}

func capped() api.Tx {
	out := listed()
	out.Type = 2
	out.Tip = word.Of(999)
	return out
}

// creating is x, but it makes an account.
func creating(x api.Tx) api.Tx {
	x.To, x.Create = api.Address{}, true
	return x
}

// kinds are these, those that make accounts, and those that have nothing else.
func kinds() []api.Tx {
	out := []api.Tx{plain(), chained(), listed(), capped()}
	for _, x := range out {
		out = append(out, creating(x))
	}
	for _, x := range out {
		out = append(out, api.Tx{Type: x.Type, Chain: x.Chain, Create: x.Create})
	}
	return out
}

// ends are numbers of 64 bits of which there is something to say.
func ends() []uint64 {
	out := []uint64{0, 127, 128, 255, 256}
	for k := 1; k < 64; k += 3 {
		out = append(out, 1<<k, 1<<k-1)
	}
	return append(out, 1<<63, 1<<64-1)
}

// words are likewise numbers of 256 bits.
func words() []api.Word {
	var out []api.Word
	for _, n := range ends() {
		out = append(out, word.Of(n))
	}
	for k := uint64(64); k < 256; k += 8 {
		one := word.Shl(word.Of(k), word.Of(1))
		out = append(out, one, word.Sub(one, word.Of(1)))
	}
	return append(out, word.Shl(word.Of(255), word.Of(1)), most(), order(), half(), word.Sub(order(), word.Of(1)))
}

// chains are numbers that a chain may have.
func chains() []uint64 {
	return []uint64{1, 2, 9, 46, 47, 109, 110, 127, 128, 255, 256, 1337, 1<<31 - 18, 1<<31 - 17, 1 << 31, 1<<32 - 18, 1<<32 - 1, 1 << 32}
}

// drawnWord is any word, of any length.
func drawnWord(d *rand.Rand) api.Word {
	a := api.Word{d.Uint64(), d.Uint64(), d.Uint64(), d.Uint64()}
	return word.Shr(word.Of(uint64(d.IntN(257))), a)
}

func drawnBytes(d *rand.Rand, most int) []byte {
	out := make([]byte, d.IntN(most+1))
	for i := range out {
		if d.IntN(3) > 0 {
			out[i] = byte(d.Uint32())
		}
	}
	return out
}

// drawn is any transaction that can be.
func drawn(d *rand.Rand) api.Tx {
	out := api.Tx{Type: d.IntN(3), Nonce: d.Uint64() >> d.IntN(65), Tip: drawnWord(d), Cap: drawnWord(d), Gas: d.Uint64() >> d.IntN(65), Value: drawnWord(d)}
	if out.Type > 0 || d.IntN(2) > 0 {
		out.Chain = pick(d, append(chains(), 1+d.Uint64N(1<<32), 1+d.Uint64N(1000))...)
	}
	if out.Type < 2 {
		out.Cap = out.Tip
	}
	copy(out.To[:], drawnBytes(d, 20))
	if d.IntN(3) == 0 {
		out = creating(out)
	}
	out.Data = drawnBytes(d, pick(d, 0, 1, 5, 60, 300))
	if out.Type > 0 {
		for range d.IntN(4) {
			a := api.Access{Address: api.Address(append(drawnBytes(d, 20), make([]byte, 20)...))}
			for range d.IntN(4) {
				a.Keys = append(a.Keys, api.Hash(append(drawnBytes(d, 32), make([]byte, 32)...)))
			}
			out.Access = append(out.Access, a)
		}
	}
	out.Sig = api.Sig{R: drawnWord(d), S: drawnWord(d), V: d.IntN(2)}
	return out
}

// samples are kinds, and so many that are drawn.
func samples(seed uint64, count int) []api.Tx {
	d, out := draw(seed), kinds()
	for range count {
		out = append(out, drawn(d))
	}
	return out
}

// bytesOf is what Encode tells of a transaction that can be, decoded what Decode tells of such one's bytes.
func bytesOf(t *testing.T, x api.Tx) []byte {
	t.Helper()
	b, e := tx.Encode(x)
	same(t, "Encode's error", e, api.OK, x)
	return b
}

func decoded(t *testing.T, b []byte) api.Tx {
	t.Helper()
	x, e := tx.Decode(b)
	same(t, "Decode's error", e, api.OK, b)
	return x
}

// refused holds Decode to an error, and to the zero transaction.
func refused(t *testing.T, b []byte, want api.Errno, of ...any) {
	t.Helper()
	x, e := tx.Decode(b)
	of = append(of, b)
	same(t, "Decode's error", e, want, of...)
	alike(t, "Decode's transaction", x, api.Tx{}, of...)
}

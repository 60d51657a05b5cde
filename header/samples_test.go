package header_test

import (
	"bytes"
	"encoding/hex"
	"fmt"
	"math/rand/v2"
	"reflect"
	"strings"
	"testing"

	"bailiwick/api"
	"bailiwick/header"
	"bailiwick/tx"
	"bailiwick/word"
)

// draw makes numbers that look like any, and are the same ones in each run.
func draw(seed uint64) *rand.Rand {
	return rand.New(rand.NewPCG(seed, 16))
}

// pick is one of l.
func pick[T any](d *rand.Rand, l ...T) T {
	return l[d.IntN(len(l))]
}

// same holds got against want, and tells of what they are.
func same[T comparable](t *testing.T, what string, got, want T, of ...any) {
	t.Helper()
	if got != want {
		t.Fatalf("%s of %s: got %v, want %v", what, named(of), got, want)
	}
}

// equal holds bytes against others.
func equal(t *testing.T, what string, got, want []byte, of ...any) {
	t.Helper()
	if !bytes.Equal(got, want) {
		t.Fatalf("%s of %s: got %s, want %s", what, named(of), named([]any{got}), named([]any{want}))
	}
}

// alike holds a head, or a block, against another one; lists that are nil or empty are alike.
func alike[T any](t *testing.T, what string, got, want T, of ...any) {
	t.Helper()
	if reflect.DeepEqual(got, want) { // which is asked first, as it is quicker
		return
	}
	if text(got) != text(want) {
		t.Fatalf("%s of %s: got %s, want %s", what, named(of), named([]any{got}), named([]any{want}))
	}
}

// text is all that x tells.
func text(x any) string {
	switch x := x.(type) {
	case api.Header:
		return fmt.Sprintf("%x %x %x %x %x %x %x %d %d %d %d %d %x %x %x %x", x.Parent, x.Uncles, x.Coinbase, x.State, x.Txs, x.Receipts, x.Bloom,
			x.Difficulty, x.Number, x.GasLimit, x.GasUsed, x.Time, x.Extra, x.Mix, x.Nonce, x.BaseFee)
	case api.Tx:
		out := fmt.Sprintf("%d %d %d %x %x %d %x %t %x %x [", x.Type, x.Chain, x.Nonce, x.Tip, x.Cap, x.Gas, x.To, x.Create, x.Value, x.Data)
		for _, a := range x.Access {
			out += fmt.Sprintf("%x %x,", a.Address, a.Keys)
		}
		return out + fmt.Sprintf("] %x %x %d", x.Sig.R, x.Sig.S, x.Sig.V)
	case api.Block:
		l := []string{text(x.Header)}
		for _, t := range x.Txs {
			l = append(l, text(t))
		}
		return strings.Join(l, "; ")
	case api.Receipt:
		out := fmt.Sprint(x.Type, x.Well, x.Gas)
		for _, l := range x.Logs {
			out += fmt.Sprintf("; %x %x %x", l.Address, l.Topics, l.Data)
		}
		return out
	case []byte:
		return hex.EncodeToString(x)
	}
	return fmt.Sprint(x)
}

// named is of what something is told: made only where that is asked for, as it may be long.
func named(of []any) string {
	const most = 1000
	var out []string
	for _, x := range of {
		one := text(x)
		if len(one) > most {
			one = one[:most] + " .."
		}
		out = append(out, one)
	}
	return strings.Join(out, ", ")
}

// unhex is the bytes of hexadecimal digits, which may stand in groups.
func unhex(text string) []byte {
	b, err := hex.DecodeString(strings.ReplaceAll(text, " ", ""))
	if err != nil {
		panic(err)
	}
	return b
}

// hexHash is a hash's digits.
func hexHash(h api.Hash) string {
	return hex.EncodeToString(h[:])
}

// most is the greatest word.
func most() api.Word {
	return word.Not(api.Word{})
}

// counted is n bytes that count up, from 1 on; as 251 is a prime, no two blocks of them are alike.
func counted(n int) []byte {
	out := make([]byte, n)
	for i := range out {
		out[i] = byte(1 + i%251)
	}
	return out
}

// who is the address of n and hashed a hash of n, neither of which is another's.
func who(n int) api.Address {
	return api.Address{byte(n), byte(n >> 8), 7: 1, 19: byte(n + 1)}
}

func hashed(n int) api.Hash {
	return api.Hash{byte(n), byte(n >> 8), 7: 1, 31: byte(n + 1)}
}

// full is a head that has something everywhere, at which no two bytes that lie close by are alike.
func full() api.Header {
	h := api.Header{Difficulty: 2, Number: 300, GasLimit: 30_000_000, GasUsed: 21_000, Time: 1 << 33, Extra: counted(97), BaseFee: api.Word{1000, 1}}
	for i, b := range [][]byte{h.Parent[:], h.Uncles[:], h.Coinbase[:], h.State[:], h.Txs[:], h.Receipts[:], h.Bloom[:], h.Mix[:], h.Nonce[:]} {
		for j := range b {
			b[j] = byte(17*i + j + 1)
		}
	}
	return h
}

// heads are such ones of which there is something to say.
func heads() []api.Header {
	return []api.Header{
		{},
		full(),
		{Extra: []byte{0}},
		{Extra: []byte{127}},
		{Extra: []byte{128}},
		{Extra: counted(55)},
		{Extra: make([]byte, 56)},
		{Difficulty: 1<<64 - 1, Number: 1<<64 - 1, GasLimit: 1<<64 - 1, GasUsed: 1<<64 - 1, Time: 1<<64 - 1, Extra: counted(300), BaseFee: most()},
		changed(full(), func(h *api.Header) { h.Extra = nil }),
	}
}

// changed is x, changed.
func changed[T any](x T, change func(x *T)) T {
	change(&x)
	return x
}

// ends are numbers of 64 bits of which there is something to say.
func ends() []uint64 {
	out := []uint64{0, 127, 128, 255, 256}
	for k := 1; k < 64; k += 3 {
		out = append(out, 1<<k, 1<<k-1)
	}
	return append(out, 1<<63, 1<<64-1)
}

// words are likewise numbers of 256 bits.
func words() []api.Word {
	var out []api.Word
	for _, n := range ends() {
		out = append(out, word.Of(n))
	}
	for k := uint64(64); k < 256; k += 8 {
		one := word.Shl(word.Of(k), word.Of(1))
		out = append(out, one, word.Sub(one, word.Of(1)))
	}
	return append(out, word.Shl(word.Of(255), word.Of(1)), most())
}

// drawnWord is any word, of any length.
func drawnWord(d *rand.Rand) api.Word {
	a := api.Word{d.Uint64(), d.Uint64(), d.Uint64(), d.Uint64()}
	return word.Shr(word.Of(uint64(d.IntN(257))), a)
}

func drawnSmall(d *rand.Rand) uint64 {
	return d.Uint64() >> d.IntN(65)
}

func drawnBytes(d *rand.Rand, most int) []byte {
	out := make([]byte, d.IntN(most+1))
	fill(d, out)
	return out
}

// fill puts any bytes into b, many of them noughts.
func fill(d *rand.Rand, b []byte) {
	for i := range b {
		b[i] = 0
		if d.IntN(3) > 0 {
			b[i] = byte(d.Uint32())
		}
	}
}

// drawnHead is any head that can be.
func drawnHead(d *rand.Rand) api.Header {
	h := api.Header{Difficulty: drawnSmall(d), Number: drawnSmall(d), GasLimit: drawnSmall(d), GasUsed: drawnSmall(d), Time: drawnSmall(d), BaseFee: drawnWord(d)}
	for _, b := range [][]byte{h.Parent[:], h.Uncles[:], h.Coinbase[:], h.State[:], h.Txs[:], h.Receipts[:], h.Bloom[:], h.Mix[:], h.Nonce[:]} {
		if d.IntN(4) > 0 {
			fill(d, b)
		}
	}
	h.Extra = drawnBytes(d, pick(d, 0, 1, 5, 60, 97, 300))
	return h
}

// drawnTx is any transaction that can be.
func drawnTx(d *rand.Rand) api.Tx {
	out := api.Tx{Type: d.IntN(3), Nonce: drawnSmall(d), Tip: drawnWord(d), Cap: drawnWord(d), Gas: drawnSmall(d), Value: drawnWord(d)}
	if out.Type > 0 || d.IntN(2) > 0 {
		out.Chain = 1 + d.Uint64N(1<<32)>>d.IntN(32)
	}
	if out.Type < 2 {
		out.Cap = out.Tip
	}
	if out.Create = d.IntN(3) == 0; !out.Create {
		fill(d, out.To[:])
	}
	out.Data = drawnBytes(d, pick(d, 0, 1, 5, 60, 300))
	if out.Type > 0 {
		for range d.IntN(4) {
			a := api.Access{Address: who(d.IntN(1000))}
			for range d.IntN(4) {
				a.Keys = append(a.Keys, hashed(d.IntN(1000)))
			}
			out.Access = append(out.Access, a)
		}
	}
	out.Sig = api.Sig{R: drawnWord(d), S: drawnWord(d), V: d.IntN(2)}
	return out
}

// drawnLog is any log that can be, with data of at most that many bytes.
func drawnLog(d *rand.Rand, most int) api.Log {
	out := api.Log{Data: drawnBytes(d, most)}
	fill(d, out.Address[:])
	for range d.IntN(5) {
		var topic api.Hash
		fill(d, topic[:])
		out.Topics = append(out.Topics, topic)
	}
	return out
}

func drawnLogs(d *rand.Rand) []api.Log {
	var out []api.Log
	for range pick(d, 0, 1, 1, 2, 3, 10) {
		out = append(out, drawnLog(d, pick(d, 0, 1, 32, 60, 300)))
	}
	return out
}

func drawnReceipt(d *rand.Rand) api.Receipt {
	return api.Receipt{Type: d.IntN(3), Well: d.IntN(2) > 0, Gas: drawnSmall(d), Logs: drawnLogs(d)}
}

func drawnBlock(d *rand.Rand) api.Block {
	out := api.Block{Header: drawnHead(d)}
	for range pick(d, 0, 1, 2, 3, 10) {
		out.Txs = append(out.Txs, drawnTx(d))
	}
	return out
}

// drawnList is so many that are drawn.
func drawnList[T any](seed uint64, count int, one func(d *rand.Rand) T) []T {
	d := draw(seed)
	var out []T
	for range count {
		out = append(out, one(d))
	}
	return out
}

// samples are heads, and so many that are drawn.
func samples(seed uint64, count int) []api.Header {
	return append(heads(), drawnList(seed, count, drawnHead)...)
}

// plain, listed, capped are a transaction of each type, with all that it can have.
func plain() api.Tx {
	price := api.Word{1000, 1}
	return api.Tx{
		Chain: 9, Nonce: 300, Tip: price, Cap: price, Gas: 70000, To: who(77), Value: api.Word{5, 6, 7, 8}, Data: []byte{0, 1, 0, 128, 255},
		Sig: api.Sig{R: api.Word{11, 12, 13, 14}, S: api.Word{21, 22, 23, 24}, V: 1},
	}
}

func listed() api.Tx {
	out := plain()
	out.Type = 1
	out.Access = []api.Access{{Address: who(1), Keys: []api.Hash{hashed(1), hashed(2)}}, {Address: who(2)}}
	return out
}

func capped() api.Tx {
	out := listed()
	out.Type = 2
	out.Tip = word.Of(999)
	return out
}

// kinds are these, and those that have nothing else.
func kinds() []api.Tx {
	return []api.Tx{plain(), listed(), capped(), {}, {Create: true}, {Type: 1, Chain: 1}, {Type: 2, Chain: 1, Create: true}}
}

// blocks are such ones of which there is something to say.
func blocks() []api.Block {
	out := []api.Block{{}, {Header: full(), Txs: kinds()}}
	for _, x := range kinds() {
		out = append(out, api.Block{Header: full(), Txs: []api.Tx{x}}, api.Block{Txs: []api.Tx{x, x, x}})
	}
	return out
}

// toldLog is a log of so many topics, and of data of so many bytes.
func toldLog(topics, size int) api.Log {
	out := api.Log{Address: who(5), Data: counted(size)}
	for i := range topics {
		out.Topics = append(out.Topics, hashed(i))
	}
	return out
}

// receipts are such ones of which there is something to say.
func receipts() []api.Receipt {
	var out []api.Receipt
	for kind := range 3 {
		for _, logs := range [][]api.Log{nil, {{}}, {toldLog(0, 0)}, {toldLog(4, 100)}, {toldLog(1, 1), toldLog(0, 56), toldLog(2, 55), {}, toldLog(3, 300)}} {
			for _, gas := range []uint64{0, 1, 127, 128, 21000, 1 << 63, 1<<64 - 1} {
				out = append(out, api.Receipt{Type: kind, Well: gas%2 == 1, Gas: gas, Logs: logs}, api.Receipt{Type: kind, Well: gas%2 == 0, Gas: gas, Logs: logs})
			}
		}
	}
	return out
}

// bytesOf is what Encode tells of a head that can be, decoded what Decode tells of such one's bytes; so, too, wholeOf and readOf of a block.
func bytesOf(t *testing.T, h api.Header) []byte {
	t.Helper()
	b, e := header.Encode(h)
	same(t, "Encode's error", e, api.OK, h)
	return b
}

func decoded(t *testing.T, b []byte) api.Header {
	t.Helper()
	h, e := header.Decode(b)
	same(t, "Decode's error", e, api.OK, b)
	return h
}

func wholeOf(t *testing.T, x api.Block) []byte {
	t.Helper()
	b, e := header.Whole(x)
	same(t, "Whole's error", e, api.OK, x)
	return b
}

func readOf(t *testing.T, b []byte) api.Block {
	t.Helper()
	x, e := header.Read(b)
	same(t, "Read's error", e, api.OK, b)
	return x
}

// refused holds Decode to an error, and to the zero head; unread Read likewise.
func refused(t *testing.T, b []byte, want api.Errno, of ...any) {
	t.Helper()
	h, e := header.Decode(b)
	of = append(of, b)
	same(t, "Decode's error", e, want, of...)
	alike(t, "Decode's head", h, api.Header{}, of...)
}

func unread(t *testing.T, b []byte, want api.Errno, of ...any) {
	t.Helper()
	x, e := header.Read(b)
	of = append(of, b)
	same(t, "Read's error", e, want, of...)
	alike(t, "Read's block", x, api.Block{}, of...)
}

// txBytes is what tx.Encode tells of a transaction that can be.
func txBytes(x api.Tx) []byte {
	b, e := tx.Encode(x)
	if e != api.OK {
		panic(e)
	}
	return b
}

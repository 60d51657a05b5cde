package header_test

import (
	"math/big"
	"strings"

	"bailiwick/api"
	"bailiwick/keccak"
	"bailiwick/rlp"
	"bailiwick/tx"
	"bailiwick/word"
)

// The chapter's words told anew: with bytes as texts, and numbers of any size.

// toldText is the bytes of an item of b, toldList of a list of items, of which there are the bytes.
func toldText(b string) string {
	if len(b) == 1 && b[0] < 0x80 {
		return b
	}
	return toldHead(0x80, len(b)) + b
}

func toldList(l ...string) string {
	all := strings.Join(l, "")
	return toldHead(0xc0, len(all)) + all
}

// toldItem is the bytes of any item, even if it can't be.
func toldItem(x api.Item) string {
	if !x.List {
		return toldText(string(x.B))
	}
	var l []string
	for _, y := range x.L {
		l = append(l, toldItem(y))
	}
	return toldList(l...)
}

func toldHead(first byte, size int) string {
	switch {
	case size <= 55:
		return string([]byte{first + byte(size)})
	case size < 1<<8:
		return string([]byte{first + 56, byte(size)})
	case size < 1<<16:
		return string([]byte{first + 57, byte(size >> 8), byte(size)})
	}
	return string([]byte{first + 58, byte(size >> 16), byte(size >> 8), byte(size)})
}

func toldNumber(x *big.Int) string {
	return toldText(string(x.Bytes()))
}

func toldSmall(n uint64) string {
	return toldNumber(new(big.Int).SetUint64(n))
}

func toldWord(a api.Word) string {
	b := word.Bytes(a)
	return toldNumber(new(big.Int).SetBytes(b[:]))
}

// toldFields are the bytes of a head's fields, one by one, also if its extra is too long.
func toldFields(h api.Header) []string {
	return []string{
		toldText(string(h.Parent[:])),
		toldText(string(h.Uncles[:])),
		toldText(string(h.Coinbase[:])),
		toldText(string(h.State[:])),
		toldText(string(h.Txs[:])),
		toldText(string(h.Receipts[:])),
		toldText(string(h.Bloom[:])),
		toldSmall(h.Difficulty),
		toldSmall(h.Number),
		toldSmall(h.GasLimit),
		toldSmall(h.GasUsed),
		toldSmall(h.Time),
		toldText(string(h.Extra)),
		toldText(string(h.Mix[:])),
		toldText(string(h.Nonce[:])),
		toldWord(h.BaseFee),
	}
}

func toldBytes(h api.Header) string {
	return toldList(toldFields(h)...)
}

// toldDecode is what Decode tells: what any bytes could be at most, if that has just these bytes.
func toldDecode(b []byte) (api.Header, api.Errno) {
	x, e := rlp.Only(b)
	if e != api.OK || len(x.L) != 16 {
		return api.Header{}, api.ErrForm
	}
	h := guess(x)
	switch {
	case toldBytes(h) != string(b):
		return api.Header{}, api.ErrForm
	case len(h.Extra) > 4096:
		return api.Header{}, api.ErrLong
	}
	return h, api.OK
}

// guess is what x would be.
func guess(x api.Item) api.Header {
	var h api.Header
	at := -1
	next := func() []byte {
		at++
		return x.L[at].B
	}
	number := func() uint64 { return new(big.Int).SetBytes(next()).Uint64() }
	copy(h.Parent[:], next())
	copy(h.Uncles[:], next())
	copy(h.Coinbase[:], next())
	copy(h.State[:], next())
	copy(h.Txs[:], next())
	copy(h.Receipts[:], next())
	copy(h.Bloom[:], next())
	h.Difficulty, h.Number, h.GasLimit, h.GasUsed, h.Time = number(), number(), number(), number(), number()
	h.Extra = next()
	copy(h.Mix[:], next())
	copy(h.Nonce[:], next())
	h.BaseFee = word.From(next())
	return h
}

// toldBits are the numbers of the bits of b.
func toldBits(b []byte) []int {
	k := keccak.Sum(b)
	var out []int
	for _, two := range [][]byte{k[0:2], k[2:4], k[4:6]} {
		out = append(out, int(new(big.Int).Mod(new(big.Int).SetBytes(two), big.NewInt(2048)).Int64()))
	}
	return out
}

// toldBloom is a bloom as the number that its 2048 bits are.
func toldBloom(logs []api.Log) *big.Int {
	out := new(big.Int)
	add := func(b []byte) {
		for _, n := range toldBits(b) {
			out.SetBit(out, n, 1)
		}
	}
	for _, l := range logs {
		add(l.Address[:])
		for _, topic := range l.Topics {
			add(topic[:])
		}
	}
	return out
}

// bloomOf is the bloom of such a number.
func bloomOf(x *big.Int) [256]byte {
	return [256]byte(x.FillBytes(make([]byte, 256)))
}

func toldHas(bloom [256]byte, b []byte) bool {
	x, found := new(big.Int).SetBytes(bloom[:]), uint(0)
	for _, n := range toldBits(b) {
		found += x.Bit(n)
	}
	return found == 3
}

// toldReceipt are r's bytes, and why it has none.
func toldReceipt(r api.Receipt) (string, api.Errno) {
	if r.Type != 0 && r.Type != 1 && r.Type != 2 {
		return "", api.ErrArg
	}
	var logs []string
	long := len(r.Logs) > 4096
	for _, l := range r.Logs {
		long = long || len(l.Topics) > 4 || len(l.Data) > 131072
		logs = append(logs, toldOne(l))
	}
	how := map[bool]uint64{true: 1}[r.Well]
	bloom := bloomOf(toldBloom(r.Logs))
	out := toldList(toldSmall(how), toldSmall(r.Gas), toldText(string(bloom[:])), toldList(logs...))
	if long || len(out) > 1<<20 {
		return "", api.ErrLong
	}
	return []string{"", "\x01", "\x02"}[r.Type] + out, api.OK
}

// toldOne is a log's bytes.
func toldOne(l api.Log) string {
	var topics []string
	for _, topic := range l.Topics {
		topics = append(topics, toldText(string(topic[:])))
	}
	return toldList(toldText(string(l.Address[:])), toldList(topics...), toldText(string(l.Data)))
}

// toldRoot is the hash of the map of such values by their numbers.
func toldRoot(values []string) api.Hash {
	pairs := map[string]string{}
	for i, v := range values {
		key := ""
		for _, b := range []byte(toldSmall(uint64(i))) {
			key += string([]byte{b >> 4, b & 15})
		}
		pairs[key] = v
	}
	if len(pairs) == 0 {
		return keccak.Sum([]byte(toldText("")))
	}
	return keccak.Sum([]byte(toldNode(pairs)))
}

// toldNode is the bytes of the node of pairs whose keys are half bytes.
func toldNode(pairs map[string]string) string {
	first, shared := "", -1
	for key := range pairs {
		if shared < 0 {
			first, shared = key, len(key)
		}
		n := 0
		for n < shared && n < len(key) && key[n] == first[n] {
			n++
		}
		shared = n
	}
	if len(pairs) == 1 {
		return toldList(toldText(toldPath(first, 2)), toldText(pairs[first]))
	}
	if shared > 0 {
		return toldList(toldText(toldPath(first[:shared], 0)), toldRef(below(pairs, first[:shared])))
	}
	l := make([]string, 17)
	for i := range 16 {
		l[i] = toldText("")
		if part := below(pairs, string([]byte{byte(i)})); len(part) > 0 {
			l[i] = toldRef(part)
		}
	}
	l[16] = toldText(pairs[""])
	return toldList(l...)
}

// toldRef is the bytes of the reference of the node of pairs.
func toldRef(pairs map[string]string) string {
	node := toldNode(pairs)
	if len(node) < 32 {
		return node
	}
	h := keccak.Sum([]byte(node))
	return toldText(string(h[:]))
}

// below are those pairs whose keys begin so, without that.
func below(pairs map[string]string, ahead string) map[string]string {
	out := map[string]string{}
	for key, value := range pairs {
		if rest, is := strings.CutPrefix(key, ahead); is {
			out[rest] = value
		}
	}
	return out
}

// toldPath packs half bytes behind what tells of which node they are.
func toldPath(path string, kind byte) string {
	if len(path)%2 > 0 {
		path = string([]byte{kind + 1}) + path
	} else {
		path = string([]byte{kind, 0}) + path
	}
	out := ""
	for i := 0; i < len(path); i += 2 {
		out += string([]byte{path[i]<<4 | path[i+1]})
	}
	return out
}

// toldTx is a transaction as it stands in a block, if it can be.
func toldTx(x api.Tx) string {
	if x.Type == 0 {
		return string(txBytes(x))
	}
	return toldText(string(txBytes(x)))
}

// toldWhole are x's bytes, and why it has none.
func toldWhole(x api.Block) (string, api.Errno) {
	if len(x.Txs) > 1024 || len(x.Header.Extra) > 4096 {
		return "", api.ErrLong
	}
	var txs []string
	for _, t := range x.Txs {
		if e := tx.Check(t); e != api.OK {
			return "", e
		}
		txs = append(txs, toldTx(t))
	}
	out := toldList(toldBytes(x.Header), toldList(txs...), toldList())
	if len(out) > 1<<20 {
		return "", api.ErrLong
	}
	return out, api.OK
}

// toldRead is what Read tells: of what stands in three parts, what the parts are, if these have just those bytes.
func toldRead(b []byte) (api.Block, api.Errno) {
	x, e := rlp.Only(b)
	if e != api.OK || len(x.L) != 3 || !rlp.Same(x.L[2], api.Item{List: true}) || !x.L[1].List {
		return api.Block{}, api.ErrForm
	}
	var out api.Block
	var errors []api.Errno
	part, _ := rlp.Encode(x.L[0])
	out.Header, e = toldDecode(part)
	errors = append(errors, e)
	for _, y := range x.L[1].L {
		b := y.B
		if y.List {
			b, _ = rlp.Encode(y)
		}
		t, e := tx.Decode(b)
		if y.List != (len(b) > 0 && b[0] > 2) {
			e = api.ErrForm
		}
		out.Txs, errors = append(out.Txs, t), append(errors, e)
	}
	if len(out.Txs) > 1024 {
		errors = append(errors, api.ErrLong)
	}
	for _, e := range []api.Errno{api.ErrForm, api.ErrLong} {
		for _, of := range errors {
			if of == e {
				return api.Block{}, e
			}
		}
	}
	return out, api.OK
}

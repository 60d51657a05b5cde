package header_test

import (
	"bytes"
	"math"
	"slices"
	"testing"

	"bailiwick/api"
	"bailiwick/header"
	"bailiwick/rlp"
	"bailiwick/tx"
	"bailiwick/word"
)

// notWhole holds Whole to an error.
func notWhole(t *testing.T, x api.Block, want api.Errno, of ...any) {
	t.Helper()
	b, e := header.Whole(x)
	same(t, "Whole's error", e, want, of...)
	same(t, "whether Whole tells none", b == nil, true, of...)
}

func TestP16_4Whole(t *testing.T) {
	for _, x := range append(blocks(), drawnList(41, 700, drawnBlock)...) {
		want, e := toldWhole(x)
		same(t, "Whole's error, told anew,", e, api.OK, x)
		equal(t, "Whole", wholeOf(t, x), []byte(want), x)
	}
}

// By hand: how a block begins and ends, and what is between.
func TestP16_4WholeParts(t *testing.T) {
	for _, h := range heads() {
		for _, x := range kinds() {
			first := string(txBytes(x))
			switch {
			case x.Type > 0 && len(first) < 56:
				first = string([]byte{0x80 + byte(len(first))}) + first
			case x.Type > 0:
				first = string([]byte{0xb8, byte(len(first))}) + first
			}
			all := toldBytes(h) + toldHead(0xc0, len(first)) + first + "\xc0"
			equal(t, "Whole", wholeOf(t, api.Block{Header: h, Txs: []api.Tx{x}}), []byte(toldHead(0xc0, len(all))+all), x)
		}
		all := toldBytes(h) + "\xc0\xc0"
		equal(t, "Whole", wholeOf(t, api.Block{Header: h}), []byte(toldHead(0xc0, len(all))+all), h)
		equal(t, "Whole", wholeOf(t, api.Block{Header: h, Txs: []api.Tx{}}), []byte(toldHead(0xc0, len(all))+all), h)
	}
}

func TestP16_4WholeMany(t *testing.T) {
	for _, x := range kinds() {
		for _, n := range []int{1023, 1024} {
			all := api.Block{Header: full(), Txs: slices.Repeat([]api.Tx{x}, n)}
			want, e := toldWhole(all)
			same(t, "Whole's error, told anew,", e, api.OK, n)
			equal(t, "Whole", wholeOf(t, all), []byte(want), n)
		}
		for _, n := range []int{1025, 1026, 2048, 1 << 16, 1<<16 + 1} {
			notWhole(t, api.Block{Txs: slices.Repeat([]api.Tx{x}, n)}, api.ErrLong, n)
		}
	}
}

// wrong are transactions that can't be, and what tx says of them.
func wrong() []api.Tx {
	return []api.Tx{
		{Type: 3}, {Type: -1}, {Type: 256}, {Type: math.MaxInt}, {Type: 1}, {Type: 2}, {Chain: 1<<32 + 1}, {Sig: api.Sig{V: 2}}, {Tip: word.Of(1)}, {Create: true, To: who(1)}, {Access: make([]api.Access, 1)},
		{Data: make([]byte, 1<<17+1)}, {Type: 1, Chain: 1, Access: make([]api.Access, 1025)}, {Type: 2, Chain: 1, Data: make([]byte, 1<<17+1)},
	}
}

// Too many; then the head; then one transaction by another.
func TestP16_4WholeFirst(t *testing.T) {
	long := changed(full(), func(h *api.Header) { h.Extra = counted(4097) })
	notWhole(t, api.Block{Header: long}, api.ErrLong)
	notWhole(t, api.Block{Header: long, Txs: kinds()}, api.ErrLong)
	found := map[api.Errno]int{}
	for i, x := range wrong() {
		want := tx.Check(x)
		found[want]++
		notWhole(t, api.Block{Header: full(), Txs: []api.Tx{x}}, want, i)
		notWhole(t, api.Block{Header: full(), Txs: append(kinds(), x)}, want, i)
		notWhole(t, api.Block{Header: long, Txs: []api.Tx{x}}, api.ErrLong, i)
		notWhole(t, api.Block{Txs: append([]api.Tx{x}, make([]api.Tx, 1023)...)}, want, i)
		notWhole(t, api.Block{Txs: append([]api.Tx{x}, make([]api.Tx, 1024)...)}, api.ErrLong, i)
		notWhole(t, api.Block{Txs: append(make([]api.Tx, 1024), x)}, api.ErrLong, i)
		for j, y := range wrong() {
			notWhole(t, api.Block{Header: full(), Txs: []api.Tx{{}, x, y}}, want, i, j)
			notWhole(t, api.Block{Header: full(), Txs: []api.Tx{x, {}, y, {}}}, want, i, j)
		}
		// What all are too long for is told behind that.
		great := slices.Repeat([]api.Tx{changed(plain(), func(x *api.Tx) { x.Data = make([]byte, 1<<17) })}, 9)
		notWhole(t, api.Block{Txs: great}, api.ErrLong, i)
		notWhole(t, api.Block{Txs: append(great, x)}, want, i)
		notWhole(t, api.Block{Txs: append([]api.Tx{x}, great...)}, want, i)
	}
	same(t, "how many errors", len(found), 2)
}

// sizedBlock is a block of just so many bytes, whose transactions are like x.
func sizedBlock(x api.Tx, size int) api.Block {
	out, room := api.Block{Header: full()}, size
	for ; room > 1<<17; room -= 100_000 {
		out.Txs = append(out.Txs, changed(x, func(x *api.Tx) { x.Data = counted(100_000) }))
	}
	out.Txs = append(out.Txs, x)
	last := &out.Txs[len(out.Txs)-1].Data
	for { // so far as it is too much or too little, that is mended
		*last = counted(room)
		txs := ""
		for _, t := range out.Txs {
			txs += toldTx(t)
		}
		more := len(toldList(toldBytes(out.Header), toldHead(0xc0, len(txs))+txs, toldList())) - size
		if more == 0 {
			return out
		}
		room -= more
	}
}

// Each may be short enough, and all of them too long for rlp.
func TestP16_4TooLong(t *testing.T) {
	for _, x := range []api.Tx{plain(), listed(), capped()} {
		all := sizedBlock(x, 1<<20)
		want, e := toldWhole(all)
		same(t, "Whole's error, told anew,", e, api.OK, x)
		b := wholeOf(t, all)
		same(t, "how many bytes of the longest", len(b), 1<<20, x)
		equal(t, "Whole", b, []byte(want), x)
		alike(t, "Read", readOf(t, b), all, x)
		for _, more := range []int{1, 2, 1 << 16} {
			all = sizedBlock(x, 1<<20+more)
			notWhole(t, all, api.ErrLong, more)
			unread(t, []byte(toldLongBlock(all)), api.ErrForm, more)
		}
		x.Data = make([]byte, 1<<17)
		notWhole(t, api.Block{Txs: slices.Repeat([]api.Tx{x}, 1024)}, api.ErrLong)
	}
	// Too many items: as keys they would have too many bytes, too.
	x := listed()
	x.Access = []api.Access{{Keys: make([]api.Hash, 1023)}}
	notWhole(t, api.Block{Txs: slices.Repeat([]api.Tx{x}, 1024)}, api.ErrLong)
}

// toldLongBlock are a block's bytes, however long it is.
func toldLongBlock(x api.Block) string {
	var txs []string
	for _, t := range x.Txs {
		txs = append(txs, toldTx(t))
	}
	return toldList(toldBytes(x.Header), toldList(txs...), toldList())
}

func TestP16_4Read(t *testing.T) {
	for _, x := range append(blocks(), drawnList(42, 700, drawnBlock)...) {
		want, _ := toldWhole(x)
		alike(t, "Read", readOf(t, []byte(want)), x, x)
		same(t, "whether it is one, told anew,", readAsTold(t, []byte(want)), true, x)
	}
}

// readAsTold holds Read of any bytes to what is told anew, and tells whether these are a block's.
func readAsTold(t *testing.T, b []byte, of ...any) bool {
	t.Helper()
	want, e := toldRead(b)
	if e != api.OK {
		unread(t, b, e, of...)
		return false
	}
	alike(t, "Read", readOf(t, b), want, append(of, b)...)
	return true
}

func TestP16_4ReadNothing(t *testing.T) {
	unread(t, nil, api.ErrForm)
	unread(t, []byte{}, api.ErrForm)
	for a := range 256 {
		unread(t, []byte{byte(a)}, api.ErrForm)
		for b := a % 7; b < 256; b += 7 {
			unread(t, []byte{byte(a), byte(b)}, api.ErrForm)
			unread(t, []byte{0xc2, byte(a), byte(b)}, api.ErrForm)
			unread(t, []byte{0xc3, byte(a), 0xc0, byte(b)}, api.ErrForm)
		}
	}
}

// block is what stands in a block, to be changed.
type block struct {
	head api.Item
	txs  []api.Item
	rest []api.Item
}

// taken is x as such one.
func taken(x api.Block) block {
	b, _ := toldWhole(x)
	y, _ := rlp.Only([]byte(b))
	return block{y.L[0], y.L[1].L, y.L[2:]}
}

func (b block) bytes() []byte {
	return built(append([]api.Item{b.head, list(b.txs...)}, b.rest...)...)
}

// In no list, in a list too many, with a part too few, too many, or in another place.
func TestP16_4ReadParts(t *testing.T) {
	for _, x := range blocks() {
		whole, _ := toldWhole(x)
		unread(t, []byte(toldText(whole)), api.ErrForm)
		unread(t, []byte(toldList(whole)), api.ErrForm)
		unread(t, []byte(toldBytes(x.Header)), api.ErrForm)
		b := taken(x)
		head, txs, none := b.head, list(b.txs...), list()
		for _, l := range [][]api.Item{
			{}, {head}, {head, txs}, {txs, none}, {head, none, none, none}, {head, txs, none, none}, {head, txs, none, {}}, {none, head, txs, none}, {{}, head, txs, none}, {head, none, txs, none},
			{txs, head, none}, {none, head, txs}, {none, txs, head}, {none, none, none}, {list(head), txs, none}, {head, list(txs), none},
			{head, txs, {}}, {head, txs, item(0)}, {head, txs, item(0xc0)}, {head, txs, list(none)}, {head, txs, list(item())}, {head, txs, list(head)}, {head, txs, head},
			{head, {}, none}, {head, item(0xc0), none}, {head, item(built(b.txs...)...), none}, {item([]byte(toldBytes(x.Header))...), txs, none}, {{}, txs, none},
		} {
			unread(t, built(l...), api.ErrForm, len(l))
		}
		readAsTold(t, built(head, none, txs))
		alike(t, "Read", readOf(t, built(head, none, none)), api.Block{Header: x.Header})
		alike(t, "Read", readOf(t, built(head, txs, none)), x)
	}
}

func TestP16_4ReadTorn(t *testing.T) {
	for _, x := range blocks()[:4] {
		whole, _ := toldWhole(x)
		b := []byte(whole)
		for size := range b {
			unread(t, b[:size], api.ErrForm)
			unread(t, b[size+1:], api.ErrForm)
		}
		for more := range 256 {
			unread(t, append(slices.Clone(b), byte(more)), api.ErrForm)
		}
		unread(t, append(slices.Clone(b), b...), api.ErrForm)
	}
}

// All bytes, each changed in each of its bits, or made one at which heads of items change.
func TestP16_4ReadChanged(t *testing.T) {
	found := 0
	for _, x := range []api.Block{{Header: full(), Txs: []api.Tx{plain(), capped()}}, {Txs: []api.Tx{listed(), {}, {Type: 1, Chain: 1}}}} {
		whole, _ := toldWhole(x)
		b := []byte(whole)
		for at := range b {
			was := b[at]
			for _, now := range []byte{was ^ 1, was ^ 128, 0, was + 1, was - 1, 0x80, 0xb8, 0xc0, 0xf8} {
				b[at] = now
				if readAsTold(t, b, at) {
					found++
				}
			}
			b[at] = was
		}
	}
	if found < 500 {
		t.Fatalf("%d of the changed bytes are a block's", found)
	}
}

func TestP16_4ReadDrawn(t *testing.T) {
	d := draw(43)
	found := 0
	for range 4_000 {
		whole, _ := toldWhole(drawnBlock(d))
		if readAsTold(t, spoiled(d, []byte(whole), d.IntN(4))) {
			found++
		}
	}
	if found < 800 || found > 3600 {
		t.Fatalf("%d of the changed bytes are a block's", found)
	}
}

// A head must be one, as Decode says it.
func TestP16_4ReadHead(t *testing.T) {
	for _, x := range []api.Block{{}, {Header: full(), Txs: kinds()}} {
		for at := range 16 {
			b := taken(x)
			was := b.head.L
			for _, y := range others() {
				b.head.L = slices.Clone(was)
				b.head.L[at] = y
				part, _ := rlp.Encode(b.head)
				h, e := toldDecode(part)
				if e != api.OK {
					unread(t, b.bytes(), e, at)
					continue
				}
				alike(t, "Read", readOf(t, b.bytes()), api.Block{Header: h, Txs: x.Txs}, at)
			}
			b.head.L = slices.Delete(slices.Clone(was), at, at+1)
			unread(t, b.bytes(), api.ErrForm, at)
			b.head.L = slices.Insert(slices.Clone(was), at, api.Item{})
			unread(t, b.bytes(), api.ErrForm, at)
		}
		b := taken(x)
		b.head.L = append(b.head.L, api.Item{})
		unread(t, b.bytes(), api.ErrForm)
	}
}

// Transactions of Type 0 stand as lists, others as bytes, and none otherwise.
func TestP16_4ReadTypes(t *testing.T) {
	for _, x := range kinds() {
		bytes := txBytes(x)
		asBytes := item(bytes...)
		asList, _ := rlp.Only(bytes[min(x.Type, 1):])
		good, bad := asBytes, []api.Item{asList, list(asList), list(item(byte(x.Type)), asList), item(bytes[1:]...), list(asBytes), list(), {}, item(byte(x.Type))}
		if x.Type == 0 {
			good, bad = asList, []api.Item{asBytes, list(asList), list(asBytes), list(), {}, item(0), item(append([]byte{0}, bytes...)...)}
		}
		alike(t, "Read", readOf(t, block{taken(api.Block{}).head, []api.Item{good}, []api.Item{list()}}.bytes()), api.Block{Txs: []api.Tx{x}}, x)
		for ahead := range 256 {
			if byte(ahead) != bytes[0] {
				bad = append(bad, item(append([]byte{byte(ahead)}, bytes...)...), item(append([]byte{byte(ahead)}, bytes[min(x.Type, 1):]...)...), item(append([]byte{byte(ahead)}, bytes[1:]...)...))
			}
		}
		for i, y := range bad {
			b := taken(api.Block{Header: full(), Txs: kinds()[:3]})
			b.txs[i%3] = y
			if c := b.bytes(); !readAsTold(t, c, i) {
				unread(t, c, api.ErrForm, i)
			}
		}
	}
	// Of the forms that are bad here, none is a transaction's.
	for _, x := range kinds() {
		b := taken(api.Block{Txs: []api.Tx{x}})
		y := b.txs[0]
		if y.List {
			b.txs[0] = item(built(y.L...)...)
		} else {
			b.txs[0], _ = rlp.Only(y.B[1:])
		}
		unread(t, b.bytes(), api.ErrForm, x)
	}
}

// Each item of a transaction gives its place to each other one, and is left out, or doubled.
func TestP16_4ReadTxs(t *testing.T) {
	found := 0
	for _, x := range kinds() {
		plain := txBytes(x)
		ahead := plain[:min(x.Type, 1)]
		inner, _ := rlp.Only(plain[len(ahead):])
		put := func(l []api.Item) {
			y := list(l...)
			if x.Type > 0 {
				y = item(slices.Concat(ahead, built(l...))...)
			}
			b := taken(api.Block{Header: full(), Txs: []api.Tx{capped(), {}, {}}})
			b.txs[1] = y
			if readAsTold(t, b.bytes()) {
				found++
			}
		}
		for at := range inner.L {
			for _, y := range others() {
				l := slices.Clone(inner.L)
				l[at] = y
				put(l)
			}
			put(slices.Delete(slices.Clone(inner.L), at, at+1))
			put(slices.Insert(slices.Clone(inner.L), at, inner.L[at]))
		}
	}
	if found < 500 {
		t.Fatalf("%d of the blocks can be", found)
	}
}

// longs are parts of a block that are only too long, as they are put into one: a head's extra, transactions of each type, their number.
func longs() map[string]func(b *block) {
	long := counted(1<<17 + 1)
	put := func(x api.Tx, at int, data []byte) func(b *block) {
		return func(b *block) {
			plain := txBytes(x)
			ahead := plain[:min(x.Type, 1)]
			y, _ := rlp.Only(plain[len(ahead):])
			y.L[at] = item(data...)
			if x.Type > 0 {
				y = item(slices.Concat(ahead, built(y.L...))...)
			}
			b.txs = append(b.txs, y)
		}
	}
	return map[string]func(b *block){
		"extra":      func(b *block) { b.head.L[12] = item(counted(4097)...) },
		"long extra": func(b *block) { b.head.L[12] = item(counted(1 << 17)...) },
		"plain":      put(plain(), 5, long),
		"first":      func(b *block) { put(plain(), 5, long)(b); slices.Reverse(b.txs) },
		"nothing":    put(api.Tx{Create: true}, 5, long),
		"listed":     put(listed(), 6, long),
		"capped":     put(capped(), 7, long),
		"access":     func(b *block) { b.txs = append(b.txs, reaching(listed(), 7, 1025)) },
		"keys":       func(b *block) { b.txs = append(b.txs, reaching(capped(), 8, 1100)) },
		"many":       func(b *block) { b.txs = append(b.txs, many(1025, api.Tx{})...) },
		"many bytes": func(b *block) { b.txs = append(b.txs, many(2000, api.Tx{Type: 1, Chain: 1})...) },
	}
}

// reaching is x with that many addresses, as it stands in a block.
func reaching(x api.Tx, at, size int) api.Item {
	plain := txBytes(x)
	y, _ := rlp.Only(plain[1:])
	y.L[at].L = slices.Repeat([]api.Item{list(item(counted(20)...), list())}, size)
	return item(slices.Concat(plain[:1], []byte(toldItem(y)))...)
}

// many is so often x, as it stands in a block.
func many(size int, x api.Tx) []api.Item {
	return slices.Repeat(taken(api.Block{Txs: []api.Tx{x}}).txs, size)
}

// fails are parts of a block that can't be at all.
func fails() map[string]func(b *block) {
	return map[string]func(b *block){
		"head":         func(b *block) { b.head.L = b.head.L[:15] },
		"more head":    func(b *block) { b.head.L = append(b.head.L, api.Item{}) },
		"number":       func(b *block) { b.head.L[8] = item(0) },
		"hash":         func(b *block) { b.head.L[0] = item(counted(31)...) },
		"fee":          func(b *block) { b.head.L[15] = item(counted(33)...) },
		"no head":      func(b *block) { b.head = item(built(b.head.L...)...) },
		"no list":      func(b *block) { b.txs = append(b.txs, list()) },
		"no bytes":     func(b *block) { b.txs = append(b.txs, item()) },
		"first":        func(b *block) { b.txs = append([]api.Item{item(3)}, b.txs...) },
		"as bytes":     func(b *block) { b.txs = append(b.txs, item(txBytes(plain())...)) },
		"first bytes":  func(b *block) { b.txs = append([]api.Item{item(txBytes(plain())...)}, b.txs...) },
		"as list":      func(b *block) { x, _ := rlp.Only(txBytes(capped())[1:]); b.txs = append(b.txs, x) },
		"long bytes":   func(b *block) { b.txs = append(b.txs, longPlain()) },
		"long type":    func(b *block) { x := reaching(listed(), 7, 1025); x.B[0] = 3; b.txs = append(b.txs, x) },
		"short":        func(b *block) { x := reaching(listed(), 7, 1025); x.B = x.B[:len(x.B)-1]; b.txs = append(b.txs, x) },
		"too many":     func(b *block) { b.txs = append(b.txs, reaching(capped(), 8, 22_000)) },
		"uncles":       func(b *block) { b.rest[0] = list(b.head) },
		"uncles bytes": func(b *block) { b.rest[0] = item() },
		"no uncles":    func(b *block) { b.rest = nil },
		"more":         func(b *block) { b.rest = append(b.rest, list()) },
	}
}

// longPlain is a transaction of Type 0, too long, that stands as bytes.
func longPlain() api.Item {
	y, _ := rlp.Only(txBytes(plain()))
	y.L[5] = item(counted(1<<17 + 1)...)
	return item(built(y.L...)...)
}

// What is only too long somewhere, or in several places: ErrLong; what can't be at all, too, wherever: ErrForm.
func TestP16_4ReadLong(t *testing.T) {
	start := api.Block{Header: full(), Txs: kinds()[:3]}
	for first, long := range longs() {
		b := taken(start)
		long(&b)
		unread(t, b.bytes(), api.ErrLong, first)
		readAsTold(t, b.bytes(), first)
		for second, again := range longs() {
			c := taken(start)
			long(&c)
			again(&c)
			unread(t, c.bytes(), api.ErrLong, first, second)
		}
		for second, fail := range fails() {
			c := taken(start)
			fail(&c)
			unread(t, c.bytes(), api.ErrForm, second)
			c = taken(start)
			long(&c)
			fail(&c)
			unread(t, c.bytes(), api.ErrForm, first, second)
		}
		b = taken(start)
		long(&b)
		unread(t, append(b.bytes(), 0), api.ErrForm, first)
		unread(t, b.bytes()[:len(b.bytes())-1], api.ErrForm, first)
	}
}

// Just as much as may be is read.
func TestP16_4ReadMost(t *testing.T) {
	for _, x := range kinds() {
		most := x
		most.Data = counted(1 << 17)
		if x.Type > 0 {
			most.Access = make([]api.Access, 1024)
		}
		all := api.Block{Header: full(), Txs: []api.Tx{most, x}}
		all.Header.Extra = counted(4096)
		alike(t, "Read", readOf(t, wholeOf(t, all)), all)
		for _, n := range []int{1023, 1024} {
			all.Txs = slices.Repeat([]api.Tx{x}, n)
			alike(t, "Read", readOf(t, wholeOf(t, all)), all)
		}
		for _, n := range []int{1025, 1026, 2048} {
			all.Txs = slices.Repeat([]api.Tx{x}, n)
			b := []byte(toldLongBlock(all))
			if len(b) <= 1<<20 {
				unread(t, b, api.ErrLong, n)
				continue
			}
			unread(t, b, api.ErrForm, n)
		}
	}
}

// What rlp refuses is no block, even if it does so as there is too much of it.
func TestP16_4ReadTooLong(t *testing.T) {
	unread(t, bytes.Repeat([]byte{0xc1}, 1<<20), api.ErrForm)
	unread(t, []byte(toldList(toldBytes(full()), toldList(string(make([]byte, 1<<16))), toldList())), api.ErrForm)
	unread(t, []byte(toldList(toldBytes(full()), toldList(string(bytes.Repeat([]byte{0xc0}, 1<<16))), toldList())), api.ErrForm)
	for _, n := range []int{1, 1025, 60_000} {
		unread(t, []byte(toldList(toldBytes(full()), toldList(string(make([]byte, n))), toldList())), api.ErrForm, n)
		unread(t, []byte(toldList(toldBytes(full()), toldList(string(bytes.Repeat([]byte{0xc0}, n))), toldList())), api.ErrForm, n)
	}
	h := full()
	h.Extra = make([]byte, 1<<20)
	unread(t, []byte(toldList(toldBytes(h), toldList(), toldList())), api.ErrForm)
	h.Extra = make([]byte, 1<<20-1000)
	unread(t, []byte(toldList(toldBytes(h), toldList(), toldList())), api.ErrLong)
}

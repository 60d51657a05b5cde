package header_test

import (
	"math"
	"slices"
	"testing"

	"bailiwick/api"
	"bailiwick/header"
)

// receiptOf is what Receipt tells of a receipt that can be.
func receiptOf(t *testing.T, r api.Receipt) []byte {
	t.Helper()
	b, e := header.Receipt(r)
	same(t, "Receipt's error", e, api.OK, r)
	return b
}

// noReceipt holds Receipt to an error.
func noReceipt(t *testing.T, r api.Receipt, want api.Errno, of ...any) {
	t.Helper()
	b, e := header.Receipt(r)
	same(t, "Receipt's error", e, want, of...)
	same(t, "whether Receipt tells none", b == nil, true, of...)
}

func TestP16_3Receipt(t *testing.T) {
	for _, r := range append(receipts(), drawnList(31, 2000, drawnReceipt)...) {
		want, e := toldReceipt(r)
		same(t, "Receipt's error, told anew,", e, api.OK, r)
		equal(t, "Receipt", receiptOf(t, r), []byte(want), r)
	}
}

// By hand: a receipt of nothing, for each type, and how it went.
func TestP16_3Nothing(t *testing.T) {
	none := make([]byte, 256)
	for kind, ahead := range []string{"", "\x01", "\x02"} {
		equal(t, "Receipt", receiptOf(t, api.Receipt{Type: kind}), []byte(ahead+"\xf9\x01\x06\x80\x80\xb9\x01\x00"+string(none)+"\xc0"), kind)
		equal(t, "Receipt", receiptOf(t, api.Receipt{Type: kind, Well: true, Gas: 128}), []byte(ahead+"\xf9\x01\x07\x01\x81\x80\xb9\x01\x00"+string(none)+"\xc0"), kind)
	}
}

func TestP16_3Type(t *testing.T) {
	for _, kind := range []int{-1, -2, -256, -255, 3, 4, 127, 128, 192, 255, 256, 257, 258, 1 << 32, 1<<32 + 1, math.MinInt, math.MinInt + 1, math.MaxInt} {
		noReceipt(t, api.Receipt{Type: kind}, api.ErrArg, kind)
		noReceipt(t, api.Receipt{Type: kind, Well: true, Gas: 7, Logs: []api.Log{toldLog(2, 5)}}, api.ErrArg, kind)
	}
}

func TestP16_3Logs(t *testing.T) {
	for kind := range 3 {
		for _, n := range []int{1, 2, 255, 256, 257, 4095, 4096} {
			r := api.Receipt{Type: kind, Logs: make([]api.Log, n)}
			for i := range r.Logs {
				r.Logs[i].Address = who(i)
			}
			want, e := toldReceipt(r)
			same(t, "Receipt's error, told anew,", e, api.OK, n)
			equal(t, "Receipt", receiptOf(t, r), []byte(want), n)
		}
		// More would be short enough for all else.
		for _, n := range []int{4097, 4098, 8192, 1 << 16, 1 << 17} {
			noReceipt(t, api.Receipt{Type: kind, Logs: make([]api.Log, n)}, api.ErrLong, n)
		}
	}
}

func TestP16_3Topics(t *testing.T) {
	for kind := range 3 {
		for at := range 3 {
			r := api.Receipt{Type: kind, Logs: make([]api.Log, 3)}
			for n := range 12 {
				r.Logs[at] = toldLog(n, 10)
				if n > 4 {
					noReceipt(t, r, api.ErrLong, n)
					continue
				}
				want, _ := toldReceipt(r)
				equal(t, "Receipt", receiptOf(t, r), []byte(want), n)
			}
			r.Logs[at] = api.Log{Topics: make([]api.Hash, 1<<16)}
			noReceipt(t, r, api.ErrLong)
		}
	}
}

func TestP16_3Data(t *testing.T) {
	for kind := range 3 {
		for at := range 3 {
			r := api.Receipt{Type: kind, Logs: make([]api.Log, 3)}
			for _, n := range []int{1<<17 - 1, 1 << 17} {
				r.Logs[at] = toldLog(1, n)
				want, _ := toldReceipt(r)
				equal(t, "Receipt", receiptOf(t, r), []byte(want), n)
			}
			for _, n := range []int{1<<17 + 1, 1 << 18, 1 << 20} {
				r.Logs[at] = toldLog(1, n)
				noReceipt(t, r, api.ErrLong, n)
			}
		}
	}
}

// sized is a receipt whose list has just so many bytes.
func sized(kind, size int) api.Receipt {
	r := api.Receipt{Type: kind, Well: true, Gas: 21000}
	room := size
	for ; room > 1<<17; room -= 60_000 {
		r.Logs = append(r.Logs, toldLog(1, 60_000))
	}
	r.Logs = append(r.Logs, toldLog(1, 0))
	last := &r.Logs[len(r.Logs)-1].Data
	for { // so far as it is too much or too little, that is mended
		*last = counted(room)
		logs := ""
		for _, l := range r.Logs {
			logs += toldOne(l)
		}
		if more := len(toldList(toldSmall(1), toldSmall(r.Gas), toldText(string(make([]byte, 256))), toldHead(0xc0, len(logs))+logs)) - size; more != 0 {
			room -= more
			continue
		}
		return r
	}
}

// Each log may be short enough, and all of them too long for rlp.
func TestP16_3TooLong(t *testing.T) {
	for kind := range 3 {
		r := sized(kind, 1<<20)
		want, e := toldReceipt(r)
		same(t, "Receipt's error, told anew,", e, api.OK, kind)
		b := receiptOf(t, r)
		equal(t, "Receipt", b, []byte(want), kind)
		same(t, "how many bytes of the longest", len(b), 1<<20+min(kind, 1))
		r.Logs[0].Data = r.Logs[0].Data[1:]
		equal(t, "how many bytes of a shorter one", []byte{byte(1<<20 - len(receiptOf(t, r)) + min(kind, 1))}, []byte{1})
		noReceipt(t, sized(kind, 1<<20+1), api.ErrLong, kind)
		noReceipt(t, sized(kind, 1<<20+2), api.ErrLong, kind)
		noReceipt(t, sized(kind, 1<<21), api.ErrLong, kind)
		many := slices.Repeat([]api.Log{toldLog(4, 1<<17)}, 4096)
		noReceipt(t, api.Receipt{Type: kind, Logs: many}, api.ErrLong, kind)
		noReceipt(t, api.Receipt{Type: kind, Logs: slices.Repeat([]api.Log{toldLog(4, 100)}, 4096)}, api.ErrLong, kind)
	}
}

// ErrArg is told ahead of ErrLong.
func TestP16_3First(t *testing.T) {
	for _, kind := range []int{-1, 3, 256} {
		noReceipt(t, api.Receipt{Type: kind, Logs: make([]api.Log, 4097)}, api.ErrArg, kind)
		noReceipt(t, api.Receipt{Type: kind, Logs: []api.Log{toldLog(5, 0)}}, api.ErrArg, kind)
		noReceipt(t, api.Receipt{Type: kind, Logs: []api.Log{toldLog(0, 1<<17+1)}}, api.ErrArg, kind)
		noReceipt(t, changed(sized(0, 1<<20+1), func(r *api.Receipt) { r.Type = kind }), api.ErrArg, kind)
	}
}

// rooted holds Receipts, and Txs, of what can be to the hash of the bytes.
func rooted(t *testing.T, l []api.Receipt) {
	t.Helper()
	var values []string
	for _, r := range l {
		values = append(values, string(receiptOf(t, r)))
	}
	h, e := header.Receipts(l)
	same(t, "Receipts' error", e, api.OK, len(l))
	same(t, "Receipts", h, toldRoot(values), len(l))
}

func rootedTxs(t *testing.T, l []api.Tx) {
	t.Helper()
	var values []string
	for _, x := range l {
		values = append(values, string(txBytes(x)))
	}
	h, e := header.Txs(l)
	same(t, "Txs' error", e, api.OK, len(l))
	same(t, "Txs", h, toldRoot(values), len(l))
}

func unrooted(t *testing.T, l []api.Receipt, want api.Errno, of ...any) {
	t.Helper()
	h, e := header.Receipts(l)
	same(t, "Receipts' error", e, want, of...)
	same(t, "Receipts", h, api.Hash{}, of...)
}

func unrootedTxs(t *testing.T, l []api.Tx, want api.Errno, of ...any) {
	t.Helper()
	h, e := header.Txs(l)
	same(t, "Txs' error", e, want, of...)
	same(t, "Txs", h, api.Hash{}, of...)
}

func TestP16_3Receipts(t *testing.T) {
	const nothing = "56e81f171bcc55a6ff8345e692c0f86e5b48e01b996cadc001622fb5e363b421"
	for _, l := range [][]api.Receipt{nil, {}} {
		h, e := header.Receipts(l)
		same(t, "Receipts' error", e, api.OK)
		same(t, "Receipts", hexHash(h), nothing)
	}
	all := append(receipts(), drawnList(32, 200, drawnReceipt)...)
	for _, n := range lengths() {
		rooted(t, all[len(all)-n:])
	}
	rooted(t, slices.Repeat(all, 4))
	rooted(t, make([]api.Receipt, 1500))
}

func TestP16_3Txs(t *testing.T) {
	h, e := header.Txs(nil)
	same(t, "Txs' error", e, api.OK)
	same(t, "Txs", hexHash(h), "56e81f171bcc55a6ff8345e692c0f86e5b48e01b996cadc001622fb5e363b421")
	all := append(kinds(), drawnList(33, 300, drawnTx)...)
	for _, n := range lengths() {
		rootedTxs(t, all[:n])
	}
	rootedTxs(t, slices.Repeat(all, 5))
	rootedTxs(t, make([]api.Tx, 1025))
}

// lengths are how many values a map by numbers may have such that there is something to say of it.
func lengths() []int {
	return []int{1, 2, 3, 4, 15, 16, 17, 31, 32, 33, 100, 126, 127, 128, 129, 130, 143, 144, 145, 200, 255, 256, 257, 258, 259, 271, 272, 273}
}

// sizedTx is a transaction that has just so many bytes, that of its type included.
func sizedTx(x api.Tx, size int) api.Tx {
	room := size
	for {
		x.Data = counted(room)
		more := len(txBytes(x)) - size
		if more == 0 {
			return x
		}
		room -= more
	}
}

// A value may have 2^16 bytes, the type's byte included.
func TestP16_3Sizes(t *testing.T) {
	for kind := range 3 {
		behind := min(kind, 1)
		r := sized(kind, 1<<16-behind)
		same(t, "how many bytes", len(receiptOf(t, r)), 1<<16, kind)
		for at := range 3 {
			l := make([]api.Receipt, 3)
			l[at] = r
			rooted(t, l)
			for _, size := range []int{1<<16 + 1, 1<<16 + 2, 1 << 17, 1 << 19, 1 << 20} {
				l[at] = sized(kind, size-behind)
				unrooted(t, l, api.ErrLong, kind, size)
				l[2] = api.Receipt{Type: 3}
				if at < 2 {
					unrooted(t, l, api.ErrLong, kind, size)
				}
			}
		}
	}
	for _, x := range []api.Tx{plain(), listed(), capped()} {
		for at := range 3 {
			l := make([]api.Tx, 3)
			l[at] = sizedTx(x, 1<<16)
			same(t, "how many bytes", len(txBytes(l[at])), 1<<16, x.Type)
			rootedTxs(t, l)
			for _, size := range []int{1<<16 + 1, 1<<16 + 2, 1 << 17} {
				l[at] = sizedTx(x, size)
				unrootedTxs(t, l, api.ErrLong, x.Type, size)
			}
		}
	}
}

// bad are receipts that have an error, or too many bytes to be a value, and badTxs are such transactions.
func bad() map[string]api.Receipt {
	return map[string]api.Receipt{
		"type":   {Type: 3},
		"logs":   {Logs: make([]api.Log, 4097)},
		"topics": {Logs: []api.Log{toldLog(5, 0)}},
		"data":   {Type: 1, Logs: []api.Log{toldLog(0, 1<<17+1)}},
		"rlp":    sized(2, 1<<20+1),
		"value":  sized(0, 1<<16+1),
	}
}

func badTxs() map[string]api.Tx {
	return map[string]api.Tx{
		"type":  {Type: 3},
		"chain": {Type: 1},
		"data":  {Data: make([]byte, 1<<17+1)},
		"keys":  {Type: 1, Chain: 1, Access: make([]api.Access, 1025)},
		"value": sizedTx(plain(), 1<<16+1),
	}
}

// The first one that has an error tells it, whichever it is.
func TestP16_3FirstOf(t *testing.T) {
	for first, r := range bad() {
		want := api.ErrLong
		if first == "type" {
			want = api.ErrArg
		}
		unrooted(t, []api.Receipt{r}, want, first)
		for second, s := range bad() {
			unrooted(t, []api.Receipt{r, s}, want, first, second)
			unrooted(t, []api.Receipt{{}, r, {}, s, {}}, want, first, second)
		}
	}
	for first, x := range badTxs() {
		want := api.ErrLong
		if first == "type" || first == "chain" {
			want = api.ErrArg
		}
		unrootedTxs(t, []api.Tx{x}, want, first)
		for second, y := range badTxs() {
			unrootedTxs(t, []api.Tx{x, y}, want, first, second)
			unrootedTxs(t, []api.Tx{{}, x, {}, y, {}}, want, first, second)
		}
	}
}

// The order counts, and how many there are.
func TestP16_3RootsApart(t *testing.T) {
	seen := map[api.Hash]bool{}
	all := drawnList(34, 5, drawnReceipt)
	for _, l := range [][]api.Receipt{all, all[:4], all[1:], {all[1], all[0]}, {all[0], all[1]}, {all[0]}, {}} {
		h, e := header.Receipts(l)
		same(t, "Receipts' error", e, api.OK)
		same(t, "whether another list has that hash", seen[h], false, len(l))
		seen[h] = true
	}
}

package header

import (
	"bailiwick/api"
	"bailiwick/rlp"
	"bailiwick/word"
)

// A head's fields are arrays, numbers, its extra, arrays again, and its base fee, in this order. They are told as slices of these arrays and as pointers, so that one order serves for writing and for reading.

// ahead are the arrays with which h begins.
func ahead(h *api.Header) [][]byte {
	return [][]byte{h.Parent[:], h.Uncles[:], h.Coinbase[:], h.State[:], h.Txs[:], h.Receipts[:], h.Bloom[:]}
}

// numbers stand behind these.
func numbers(h *api.Header) []*uint64 {
	return []*uint64{&h.Difficulty, &h.Number, &h.GasLimit, &h.GasUsed, &h.Time}
}

// behind are the arrays behind h's extra.
func behind(h *api.Header) [][]byte {
	return [][]byte{h.Mix[:], h.Nonce[:]}
}

// head is the list of h's fields.
func head(h api.Header) api.Item {
	var l []api.Item
	for _, b := range ahead(&h) {
		l = append(l, text(b))
	}
	for _, n := range numbers(&h) {
		l = append(l, small(*n))
	}
	l = append(l, text(h.Extra))
	for _, b := range behind(&h) {
		l = append(l, text(b))
	}
	return list(append(l, rlp.Number(h.BaseFee))...)
}

// readHead is the head of whose fields x is the list.
func readHead(x api.Item) (api.Header, api.Errno) {
	var h api.Header
	r := reader{items: x.L, bad: !x.List}
	r.head(&h)
	if r.bad || len(r.items) > 0 {
		return api.Header{}, api.ErrForm
	}
	if e := Check(h); e != api.OK {
		return api.Header{}, e
	}
	return h, api.OK
}

// list is the list of l, which is not copied, unlike that of rlp.List: it is only written. So, too, is text the item of b.
func list(l ...api.Item) api.Item {
	return api.Item{List: true, L: l}
}

func text(b []byte) api.Item {
	return api.Item{B: b}
}

func small(n uint64) api.Item {
	return rlp.Number(word.Of(n))
}

package header

import (
	"bailiwick/api"
	"bailiwick/rlp"
	"bailiwick/tx"
)

// Whole is b's bytes.
func Whole(b api.Block) ([]byte, api.Errno) {
	if len(b.Txs) > api.MaxTxs {
		return nil, api.ErrLong
	}
	if e := Check(b.Header); e != api.OK {
		return nil, e
	}
	txs := make([]api.Item, len(b.Txs))
	for i, t := range b.Txs {
		x, e := transaction(t)
		if e != api.OK {
			return nil, e
		}
		txs[i] = x
	}
	return rlp.Encode(list(head(b.Header), list(txs...), list()))
}

// transaction is t as it stands in a block: as a list, or as the bytes of that and of its type.
func transaction(t api.Tx) (api.Item, api.Errno) {
	b, e := tx.Encode(t)
	if e != api.OK {
		return api.Item{}, e
	}
	if t.Type != 0 {
		return text(b), api.OK
	}
	return rlp.Only(b)
}

// Read is the block of which b is the bytes.
func Read(b []byte) (api.Block, api.Errno) {
	x, e := rlp.Only(b)
	if e != api.OK || len(x.L) != 3 || !x.L[1].List || !x.L[2].List || len(x.L[2].L) > 0 {
		return api.Block{}, api.ErrForm
	}
	var out api.Block
	out.Header, e = readHead(x.L[0])
	out.Txs = make([]api.Tx, len(x.L[1].L))
	for i, y := range x.L[1].L {
		var of api.Errno
		out.Txs[i], of = readTransaction(y)
		e = max(e, of) // ErrForm is above ErrLong: what is bad somewhere is not only too long
	}
	if len(out.Txs) > api.MaxTxs {
		e = max(e, api.ErrLong)
	}
	if e != api.OK {
		return api.Block{}, e
	}
	return out, api.OK
}

// readTransaction is the transaction that stands in a block as x.
func readTransaction(x api.Item) (api.Tx, api.Errno) {
	const lists = 0xc0 // with which, or more, a list's bytes begin: as bytes stand only those transactions that are no list
	if !x.List && len(x.B) > 0 && x.B[0] >= lists {
		return api.Tx{}, api.ErrForm
	}
	if !x.List {
		return tx.Decode(x.B)
	}
	b, _ := rlp.Encode(x) // which can be, as all around it could be read
	return tx.Decode(b)
}

package tx

import (
	"bailiwick/api"
	"bailiwick/rlp"
	"bailiwick/word"
)

// read is the transaction of that type of whose list b is the bytes, and whether it is one, but for what Check looks at.
func read(kind int, b []byte) (api.Tx, bool) {
	x, e := rlp.Only(b)
	r := reader{items: []api.Item{x}, bad: e != api.OK}
	t := api.Tx{Type: kind}
	r.within(func(inner *reader) { inner.tx(&t) })
	return t, !r.bad
}

// reader reads items one by one, and notes whether one was bad or is missing; what it answers then plays no part.
type reader struct {
	items []api.Item
	bad   bool
}

// want notes that something is bad, unless it is as it should be.
func (r *reader) want(is bool) {
	r.bad = r.bad || !is
}

func (r *reader) next() api.Item {
	if len(r.items) == 0 {
		r.bad = true
		return api.Item{}
	}
	x := r.items[0]
	r.items = r.items[1:]
	return x
}

// within lets the items of a list be read, all of them.
func (r *reader) within(do func(inner *reader)) {
	x := r.next()
	inner := reader{items: x.L, bad: !x.List}
	do(&inner)
	r.want(!inner.bad && len(inner.items) == 0)
}

func (r *reader) bytes() []byte {
	x := r.next()
	r.want(!x.List)
	return x.B
}

// exactly is just so many bytes.
func (r *reader) exactly(size int) []byte {
	b := r.bytes()
	if len(b) != size {
		r.bad = true
		return make([]byte, size)
	}
	return b
}

func (r *reader) number() api.Word {
	a, e := rlp.ToNumber(r.next())
	r.want(e == api.OK)
	return a
}

// small is a number below 2^64.
func (r *reader) small() uint64 {
	n, fits := word.Small(r.number())
	r.want(fits)
	return n
}

// tx reads all of t, whose type is known.
func (r *reader) tx(t *api.Tx) {
	if t.Type != plain {
		t.Chain = r.small()
	}
	t.Nonce = r.small()
	t.Tip = r.number()
	t.Cap = t.Tip
	if t.Type == capped {
		t.Cap = r.number()
	}
	t.Gas = r.small()
	r.to(t)
	t.Value = r.number()
	t.Data = r.bytes()
	if t.Type != plain {
		t.Access = r.access()
	}
	r.seal(t)
}

func (r *reader) to(t *api.Tx) {
	b := r.bytes()
	t.Create = len(b) == 0
	switch len(b) {
	case 0:
	case len(t.To):
		t.To = api.Address(b)
	default:
		r.bad = true
	}
}

func (r *reader) access() []api.Access {
	var out []api.Access
	r.within(func(all *reader) {
		for len(all.items) > 0 {
			all.within(func(one *reader) {
				who := api.Address(one.exactly(len(api.Address{})))
				out = append(out, api.Access{Address: who, Keys: one.keys()})
			})
		}
	})
	return out
}

func (r *reader) keys() []api.Hash {
	var out []api.Hash
	r.within(func(all *reader) {
		for len(all.items) > 0 {
			out = append(out, api.Hash(all.exactly(len(api.Hash{}))))
		}
	})
	return out
}

// seal reads t's signature, and, if t is plain, its chain.
func (r *reader) seal(t *api.Tx) {
	v := r.small()
	switch {
	case t.Type != plain:
	case v >= inChain:
		v -= inChain
		t.Chain = v / 2
		v %= 2
		r.want(t.Chain > 0)
	default:
		v -= inNone // what is less becomes great, and so is bad, too
	}
	r.want(v <= 1) // here, not only by Check, as an int may have fewer bits than v
	t.Sig.V = int(v)
	t.Sig.R = r.number()
	t.Sig.S = r.number()
}

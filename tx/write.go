package tx

import (
	"bailiwick/api"
	"bailiwick/rlp"
	"bailiwick/word"
)

// What V is added to in the bytes of a plain transaction.
const (
	inNone  = 27
	inChain = 35 // and the chain's number twice
)

// lay is the bytes of a list of these, behind the byte of the type, if it is not plain.
func lay(kind int, l []api.Item) []byte {
	b, _ := rlp.Encode(list(l)) // which has fewer items and bytes than an item may have, as Check let it through
	if kind == plain {
		return b
	}
	return append([]byte{byte(kind)}, b...)
}

// fields are those of t that are signed in each of its types.
func fields(t api.Tx) []api.Item {
	var out []api.Item
	if t.Type != plain {
		out = append(out, small(t.Chain))
	}
	out = append(out, small(t.Nonce))
	if t.Type == capped {
		out = append(out, rlp.Number(t.Tip))
	}
	out = append(out, rlp.Number(t.Cap), small(t.Gas), to(t), rlp.Number(t.Value), api.Item{B: t.Data})
	if t.Type != plain {
		out = append(out, access(t.Access))
	}
	return out
}

// seal is what stands behind these: t's signature, and, if t is plain, its chain.
func seal(t api.Tx) []api.Item {
	v := uint64(t.Sig.V)
	switch {
	case t.Type != plain:
	case t.Chain == 0:
		v += inNone
	default:
		v += inChain + 2*t.Chain
	}
	return []api.Item{small(v), rlp.Number(t.Sig.R), rlp.Number(t.Sig.S)}
}

// to is whom t goes to: nobody, if it makes an account.
func to(t api.Tx) api.Item {
	if t.Create {
		return api.Item{}
	}
	return api.Item{B: t.To[:]}
}

// access is an access list.
func access(l []api.Access) api.Item {
	out := make([]api.Item, len(l))
	for i, a := range l {
		keys := make([]api.Item, len(a.Keys))
		for j := range a.Keys {
			keys[j] = api.Item{B: a.Keys[j][:]}
		}
		out[i] = list([]api.Item{{B: a.Address[:]}, list(keys)})
	}
	return list(out)
}

// list is the list of l, which is not copied, unlike that of rlp.List: it is only written.
func list(l []api.Item) api.Item {
	return api.Item{List: true, L: l}
}

func small(n uint64) api.Item {
	return rlp.Number(word.Of(n))
}

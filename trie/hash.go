package trie

import (
	"bailiwick/api"
	"bailiwick/keccak"
	"bailiwick/nibble"
	"bailiwick/rlp"
)

// What the document calls a node is a list of two items, or one of 17; a node here that has a path and kids is two of these.
const (
	pairItems = 2
	forkItems = len(kids{}) + 1 // the last one is a value
)

// referred is n with its reference, and with those of all below.
func (n *node) referred() *node {
	if n == nil || n.ref != nil {
		return n
	}
	out := *n
	if n.kids != nil {
		var all kids
		for at, kid := range n.kids {
			all[at] = kid.referred()
		}
		out.kids = &all
	}
	ref := refer(out.item())
	out.ref = &ref
	return &out
}

// item is the node of n's pairs, if the references of all below are there.
func (n *node) item() api.Item {
	switch {
	case n.kids == nil:
		return pair(n.path, true, api.Item{B: n.value})
	case len(n.path) == 0:
		return n.fork()
	}
	return pair(n.path, false, refer(n.fork()))
}

// fork is the node of n's pairs without its path.
func (n *node) fork() api.Item {
	out := api.Item{List: true, L: make([]api.Item, forkItems)}
	for at, kid := range n.kids {
		if kid != nil {
			out.L[at] = *kid.ref
		}
	}
	out.L[len(n.kids)] = api.Item{B: n.value}
	return out
}

// pair is a node of a path, and of what is behind it: a leaf's value, or a reference.
func pair(path []byte, leaf bool, behind api.Item) api.Item {
	packed, _ := nibble.Pack(path, leaf)
	return api.Item{List: true, L: []api.Item{{B: packed}, behind}}
}

// refer is the reference of a node: itself, if it is no longer than its hash would be.
func refer(x api.Item) api.Item {
	b := encode(x)
	if !apart(b) {
		return x
	}
	h := keccak.Sum(b)
	return api.Item{B: h[:]}
}

// apart tells whether a node of these bytes is reached by its hash.
func apart(b []byte) bool {
	return len(b) >= len(api.Hash{})
}

// encode is the bytes of a node, which are never too many: a value's bytes, and a few.
func encode(x api.Item) []byte {
	b, _ := rlp.Encode(x)
	return b
}

// hash is Keccak-256 of the bytes of the node of n's pairs, or, of nil, of an empty item.
func (n *node) hash() api.Hash {
	switch {
	case n == nil:
		return keccak.Sum(encode(api.Item{}))
	case n.ref.List:
		return keccak.Sum(encode(*n.ref))
	}
	return api.Hash(n.ref.B)
}

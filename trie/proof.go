package trie

import (
	"bytes"

	"bailiwick/api"
	"bailiwick/keccak"
	"bailiwick/nibble"
	"bailiwick/rlp"
)

// Prove is the bytes of the nodes on the way to key: of the first one, and of those that are reached by a hash.
func (t *Trie) Prove(key []byte) [][]byte {
	t.root = t.root.referred()
	if t.root == nil {
		return [][]byte{encode(api.Item{})}
	}
	var out [][]byte
	for _, x := range t.root.way(nibble.Of(key)) {
		if b := encode(x); len(out) == 0 || apart(b) {
			out = append(out, b)
		}
	}
	return out
}

// way is the nodes on the way to the key, from n on, as far as there are any.
func (n *node) way(key []byte) []api.Item {
	var out []api.Item
	for n != nil {
		out = append(out, n.item())
		if n.kids == nil || !bytes.HasPrefix(key, n.path) {
			break
		}
		if len(n.path) > 0 {
			out = append(out, n.fork())
		}
		key = key[len(n.path):]
		if len(key) == 0 {
			break
		}
		n, key = n.kids[key[0]], key[1:]
	}
	return out
}

// Verify is the value that key has in the map whose Root is root, as far as proof tells.
func Verify(root api.Hash, key []byte, proof [][]byte) ([]byte, api.Errno) {
	f := follower{rest: nibble.Of(key), proof: proof}
	x, more, e := f.step(api.Item{B: root[:]})
	// No call within a call: as paths may be empty, there may be more nodes than a stack can hold.
	for more {
		x, more, e = f.step(x)
	}
	switch {
	case e != api.OK:
		return nil, e
	case x.List || len(f.proof) > 0:
		return nil, api.ErrForm
	case len(x.B) == 0:
		return nil, api.ErrNone
	}
	return x.B, api.OK
}

// follower is what is still ahead on the way to a key: nibbles of it, and nodes.
type follower struct {
	rest  []byte
	proof [][]byte
}

// step goes through the node of a reference: it tells the next one, and true;
// or, where the way ends, the key's value (an empty item, if it has none), and false.
func (f *follower) step(ref api.Item) (api.Item, bool, api.Errno) {
	x, e := f.open(ref)
	switch {
	case e != api.OK:
		return api.Item{}, false, e
	case !x.List:
		return api.Item{}, false, api.OK
	case len(x.L) == pairItems:
		return f.along(x.L[0], x.L[1])
	case len(x.L) == forkItems:
		next, more := f.choose(x.L)
		return next, more, api.OK
	}
	return api.Item{}, false, api.ErrForm
}

// open is the node of a reference, a list or an empty item.
func (f *follower) open(ref api.Item) (api.Item, api.Errno) {
	if ref.List || len(ref.B) == 0 {
		return ref, api.OK
	}
	if len(ref.B) != len(api.Hash{}) || len(f.proof) == 0 {
		return api.Item{}, api.ErrForm
	}
	b := f.proof[0]
	f.proof = f.proof[1:]
	x, e := rlp.Only(b)
	if keccak.Sum(b) != api.Hash(ref.B) || e != api.OK || len(x.B) > 0 {
		return api.Item{}, api.ErrForm
	}
	return x, api.OK
}

// along goes the path of a node of two items, and tells what is behind it.
func (f *follower) along(packed, behind api.Item) (api.Item, bool, api.Errno) {
	path, leaf, e := nibble.Unpack(packed.B)
	if packed.List || e != api.OK {
		return api.Item{}, false, api.ErrForm
	}
	rest, fits := bytes.CutPrefix(f.rest, path)
	if !fits || leaf && len(rest) > 0 {
		return api.Item{}, false, api.OK
	}
	f.rest = rest
	return behind, !leaf, api.OK
}

// choose is what a node of 17 items has for the next nibble, or behind the last one.
func (f *follower) choose(l []api.Item) (api.Item, bool) {
	if len(f.rest) == 0 {
		return l[forkItems-1], false
	}
	at := f.rest[0]
	f.rest = f.rest[1:]
	return l[at], true
}

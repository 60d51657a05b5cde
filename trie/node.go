package trie

import (
	"bytes"
	"iter"
	"slices"

	"bailiwick/api"
	"bailiwick/nibble"
)

// node stands for some pairs, not none, whose keys (as nibbles) all begin with its path.
// Maps share nodes, so one is never changed: what changes a map makes those on the way anew.
type node struct {
	path  []byte
	value []byte    // of the key that ends behind the path; none, if none does
	kids  *kids     // of those that go on there; nil, if none does
	ref   *api.Item // its reference, once it was asked for; all below have theirs, too, then
}

// kids are nodes by the nibble that stands between the path and their own.
type kids [16]*node

// find is the value of the key; none, if it is not there.
func (n *node) find(key []byte) []byte {
	for n != nil && bytes.HasPrefix(key, n.path) {
		key = key[len(n.path):]
		if len(key) == 0 {
			return n.value
		}
		n, key = n.kid(key[0]), key[1:]
	}
	return nil
}

// kid is the one at a nibble, or nil.
func (n *node) kid(at byte) *node {
	if n.kids == nil {
		return nil
	}
	return n.kids[at]
}

// with is n's pairs and this one, in the place of that with the same key.
func (n *node) with(key, value []byte) *node {
	if n == nil {
		return &node{path: key, value: value}
	}
	same := nibble.Common(n.path, key)
	if same < len(n.path) {
		n = n.split(same)
	}
	if same == len(key) {
		return &node{path: n.path, value: value, kids: n.kids}
	}
	at := key[same]
	return n.having(at, n.kid(at).with(key[same+1:], value))
}

// split is n's pairs with a shorter path, behind which n is the one kid.
func (n *node) split(at int) *node {
	rest := &node{path: n.path[at+1:], value: n.value, kids: n.kids}
	return (&node{path: n.path[:at]}).having(n.path[at], rest)
}

// having is n with another kid at a nibble.
func (n *node) having(at byte, kid *node) *node {
	var all kids
	if n.kids != nil {
		all = *n.kids
	}
	all[at] = kid
	return &node{path: n.path, value: n.value, kids: &all}
}

// without is n's pairs but for the one of a key that is there; nil, if there are no others.
func (n *node) without(key []byte) *node {
	key = key[len(n.path):]
	if len(key) == 0 {
		return (&node{path: n.path, kids: n.kids}).tidy()
	}
	at := key[0]
	return n.having(at, n.kids[at].without(key[1:])).tidy()
}

// tidy is n in the one form that its pairs have: none without a value goes on to one kid alone.
func (n *node) tidy() *node {
	there := n.which()
	switch {
	case len(there) == 0 && len(n.value) == 0:
		return nil
	case len(there) == 0:
		return &node{path: n.path, value: n.value}
	case len(there) > 1 || len(n.value) > 0:
		return n
	}
	kid := n.kids[there[0]]
	return &node{path: slices.Concat(n.path, there, kid.path), value: kid.value, kids: kid.kids}
}

// which is the nibbles at which there are kids.
func (n *node) which() []byte {
	var out []byte
	for at := range byte(len(kids{})) {
		if n.kid(at) != nil {
			out = append(out, at)
		}
	}
	return out
}

// pairs are the keys, with what is ahead of them, and the values, by the keys' order.
func (n *node) pairs(ahead []byte) iter.Seq2[[]byte, []byte] {
	return func(yield func(key, value []byte) bool) {
		if n == nil {
			return
		}
		here := slices.Concat(ahead, n.path)
		if len(n.value) > 0 && !yield(here, n.value) {
			return
		}
		for _, at := range n.which() {
			for key, value := range n.kids[at].pairs(slices.Concat(here, []byte{at})) {
				if !yield(key, value) {
					return
				}
			}
		}
	}
}

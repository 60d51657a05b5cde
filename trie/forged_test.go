package trie_test

import (
	"bytes"
	"math/rand/v2"
	"slices"
	"strings"
	"testing"

	"bailiwick/api"
	"bailiwick/keccak"
	"bailiwick/nibble"
	"bailiwick/trie"
)

// crafter makes nodes on the way to a key, many of them wrong; those behind a hash come last first.
type crafter struct {
	*rand.Rand
	proof [][]byte
}

// craft is a proof of some kind for a key: all of its hashes fit, but what they are of may be anything.
func craft(d *rand.Rand, key []byte) [][]byte {
	c := crafter{Rand: d}
	c.apart(c.node(nibble.Of(key), 6))
	slices.Reverse(c.proof)
	return c.proof
}

// apart is the reference of a node behind a hash; its bytes are seldom such as rlp refuses.
func (c *crafter) apart(x api.Item) api.Item {
	b := encoded(x)
	switch c.IntN(60) {
	case 0:
		b = append(b, byte(c.IntN(256)))
	case 1:
		b = b[:len(b)-1]
	case 2:
		b = []byte{0x80}
	}
	c.proof = append(c.proof, b)
	return hashOf(b)
}

// ref is a reference on the way to what is left of a key.
func (c *crafter) ref(rest []byte, deep int) api.Item {
	if deep == 0 {
		return text("")
	}
	switch c.IntN(24) {
	case 0, 1:
		return text("")
	case 2:
		return text(string(drawnBytes(c.Rand, pick(c.Rand, []int{1, 2, 31, 32, 33, 50}))))
	case 3, 4, 5, 6, 7, 8:
		return c.node(rest, deep-1)
	}
	return c.apart(c.node(rest, deep-1))
}

// node is one on the way to what is left of a key.
func (c *crafter) node(rest []byte, deep int) api.Item {
	switch c.IntN(20) {
	case 0:
		return c.junk()
	case 1:
		l := make([]api.Item, pick(c.Rand, []int{0, 1, 3, 16, 18}))
		return list(l...)
	case 2, 3, 4, 5:
		return list(c.path(rest, true), c.value())
	case 6, 7, 8, 9, 10, 11:
		path := rest[:c.IntN(min(len(rest), 4)+1)]
		return list(c.path(path, false), c.ref(rest[len(path):], deep))
	}
	l := make([]api.Item, 17)
	for i := range l {
		if c.IntN(5) == 0 {
			l[i] = c.junk()
		}
	}
	l[16] = c.value()
	if len(rest) > 0 {
		l[rest[0]] = c.ref(rest[1:], deep)
	}
	return list(l...)
}

// path is the item of one, seldom of another one or of none.
func (c *crafter) path(n []byte, leaf bool) api.Item {
	n = bytes.Clone(n)
	switch c.IntN(16) {
	case 0:
		return c.junk()
	case 1:
		n = append(n, byte(c.IntN(16)))
	case 2:
		n = n[:c.IntN(len(n)+1)]
	case 3:
		if len(n) > 0 {
			n[c.IntN(len(n))] ^= 1 << c.IntN(4)
		}
	}
	b, _ := nibble.Pack(n, leaf)
	if c.IntN(16) == 0 {
		b[0] ^= 1 << c.IntN(8)
	}
	return text(string(b))
}

// value is one, seldom an empty one or a list.
func (c *crafter) value() api.Item {
	switch c.IntN(8) {
	case 0:
		return text("")
	case 1:
		return list(text("a"), text("b"))
	}
	return text(string(drawnBytes(c.Rand, 1+c.IntN(40))))
}

// junk is an item of any kind.
func (c *crafter) junk() api.Item {
	if c.IntN(3) == 0 {
		l := make([]api.Item, c.IntN(4))
		return list(l...)
	}
	return text(string(drawnBytes(c.Rand, c.IntN(40))))
}

// All kinds of proofs whose hashes fit, against the chapter's words; all that Verify tells is often told.
func TestP14_3Crafted(t *testing.T) {
	d := draw(33)
	told := map[api.Errno]int{}
	long := 0
	for range 80000 {
		key := []byte(drawnKey(d))
		key = key[:min(len(key), 4)]
		proof := craft(d, key)
		root := keccak.Sum(proof[0])
		switch d.IntN(20) {
		case 0:
			proof = append(proof, pick(d, proof))
		case 1:
			proof = proof[:d.IntN(len(proof)+1)]
		case 2:
			proof = slices.Delete(proof, 0, 1)
		}
		e := asVerify(t, root, key, proof)
		told[e]++
		if e == api.OK && len(proof) > 2 {
			long++
		}
	}
	for _, e := range []api.Errno{api.OK, api.ErrNone, api.ErrForm} {
		if told[e] < 5000 || long < 1000 {
			t.Fatalf("too few of some kind: %v, %d of them long ones with a value", told, long)
		}
	}
}

// nodesOf is the bytes of all nodes of m, those that lie within others too.
func nodesOf(m pairs) [][]byte {
	var out [][]byte
	for key := range m {
		for _, b := range toldWay(byDigits(m), digits([]byte(key))) {
			out = append(out, []byte(b))
		}
	}
	slices.SortFunc(out, bytes.Compare)
	return slices.CompactFunc(out, bytes.Equal)
}

// truthful looks whether what Verify tells with m's Root, if it tells something, is what Get tells.
func truthful(t *testing.T, m pairs, root api.Hash, key string, proof [][]byte) {
	t.Helper()
	value, e := trie.Verify(root, []byte(key), proof)
	if e == api.ErrForm {
		return
	}
	want, there := m[key]
	same(t, "whether Verify tells a value", e == api.OK, there, digits([]byte(key)), allDigits(proof))
	equal(t, "Verify", value, []byte(want), digits([]byte(key)), allDigits(proof))
}

// Nodes of a map and of others like it, in any order: none of these proves anything wrong.
func TestP14_7AnyNodes(t *testing.T) {
	m := pairs{"\x12\x34": strings.Repeat("a", 30), "\x12\x35": strings.Repeat("b", 30), "\x12": "c", "\x82\x35": "d"}
	other := pairs{"\x12\x34": strings.Repeat("a", 30), "\x12\x35": strings.Repeat("B", 30), "\x12": "c", "\x82\x36": "d"}
	root := m.trie(t).Root()
	nodes := append(nodesOf(m), nodesOf(other)...)
	nodes = append(nodes, []byte{0x80}, nil)
	var proof [][]byte
	var from func(deep int)
	from = func(deep int) {
		for _, key := range []string{"", "\x12", "\x12\x34", "\x12\x35", "\x82\x35", "\x82\x36", "\x12\x34\x00", "\x13", "\x22"} {
			truthful(t, m, root, key, proof)
		}
		for _, b := range nodes {
			if deep == 0 {
				return
			}
			proof = append(proof, b)
			from(deep - 1)
			proof = proof[:len(proof)-1]
		}
	}
	from(4)
}

// A proof of one key for another one, of one map for another; with nodes that are doubled, left out, changed.
func TestP14_7Changed(t *testing.T) {
	d := draw(71)
	for range 3000 {
		m := drawn(d, 12)
		other := pairs{}
		for key, value := range m {
			other[key] = value
		}
		other[drawnKey(d)] = drawnValue(d)
		root := m.trie(t).Root()
		keys := near(d, m, 2)
		from := pick(d, []pairs{m, m, other}).trie(t)
		proof := from.Prove([]byte(pick(d, keys)))
		switch at := d.IntN(len(proof)); d.IntN(5) {
		case 0:
			proof = slices.Delete(proof, at, at+1)
		case 1:
			proof = slices.Insert(proof, at, proof[d.IntN(len(proof))])
		case 2:
			b := proof[at]
			b[d.IntN(len(b))] ^= 1 << d.IntN(8)
		case 3:
			i := d.IntN(len(proof))
			proof[at], proof[i] = proof[i], proof[at]
		}
		for _, key := range keys {
			truthful(t, m, root, key, proof)
		}
	}
}

// A value may be what looks like a node, or like a node's hash: nothing is proved by it.
func TestP14_7ValuesLikeNodes(t *testing.T) {
	forged := encoded(leaf("20", strings.Repeat("forged", 8)))
	hash := keccak.Sum(forged)
	short := encoded(leaf("31", "f"))
	for _, value := range []string{string(forged), string(hash[:]), string(short), "\x80", "\xc0", "\xa0" + string(hash[:])} {
		for _, m := range []pairs{
			{"": value},
			{"\x12": value},
			{"\x12": value, "\x12\x34": "v"},
			{"\x12": value, "\x12\x34": value, "\x12\x35": value},
			{"": value, "\x00": value, "\x01": strings.Repeat("v", 40)},
		} {
			got := m.trie(t)
			root := got.Root()
			for _, key := range []string{"", "\x00", "\x01", "\x12", "\x12\x34", "\x12\x35", "\x12\x31", "\x31", "\x12\x00", "\x01\x02"} {
				proof := got.Prove([]byte(key))
				truthful(t, m, root, key, proof)
				truthful(t, m, root, key, append(proof, forged))
				truthful(t, m, root, key, append(proof[:len(proof)-1], forged))
				truthful(t, m, root, key, append(got.Prove([]byte(key)), short))
				truthful(t, m, root, key, [][]byte{forged})
				truthful(t, m, root, key, [][]byte{[]byte(value)})
			}
		}
	}
}

package trie_test

import (
	"bytes"
	"slices"
	"strings"
	"testing"

	"bailiwick/api"
	"bailiwick/keccak"
	"bailiwick/rlp"
	"bailiwick/trie"
)

func TestP14_3ProveOfNone(t *testing.T) {
	for _, key := range append(few(), strings.Repeat("k", 100)) {
		proof := trie.New().Prove([]byte(key))
		alike(t, "Prove", proof, [][]byte{{0x80}}, digits([]byte(key)))
		value, e := trie.Verify(trie.New().Root(), []byte(key), proof)
		same(t, "Verify's error", e, api.ErrNone)
		equal(t, "Verify", value, nil)
	}
}

// All subsets of a few keys, and of each some of these keys; with nodes that lie within others, and such that don't.
func TestP14_3Subsets(t *testing.T) {
	for which := range 1 << len(few()) {
		m := subset(which, []int{1, 5, 30, 60}[which%4])
		got := m.trie(t)
		for i, key := range append(few(), "\x11\x11", "\x00\x00\x00", "\x12", "\xf0") {
			if (which/4+i)%3 != 0 {
				continue
			}
			alike(t, "Prove", got.Prove([]byte(key)), toldProve(m, key), which, digits([]byte(key)))
		}
	}
}

func TestP14_3Samples(t *testing.T) {
	d := draw(31)
	for _, m := range samples(d, 300) {
		got := m.trie(t)
		for _, key := range near(d, m, 4) {
			alike(t, "Prove", got.Prove([]byte(key)), toldProve(m, key), digits([]byte(key)))
		}
	}
}

// Prove tells of the map as it is, whatever was done since the last one.
func TestP14_3ProveWhileChanging(t *testing.T) {
	d := draw(32)
	for range 40 {
		m := drawn(d, 20)
		got := m.trie(t)
		for range 30 {
			step(t, d, m, got)
			key := drawnKey(d)
			alike(t, "Prove", got.Prove([]byte(key)), toldProve(m, key), digits([]byte(key)))
			same(t, "Root", got.Root(), toldRoot(m))
		}
	}
}

// Items of hand-made nodes, and their bytes.
func text(b string) api.Item {
	return api.Item{B: []byte(b)}
}

func list(l ...api.Item) api.Item {
	return api.Item{List: true, L: l}
}

func encoded(x api.Item) []byte {
	b, e := rlp.Encode(x)
	if e != api.OK {
		panic(e)
	}
	return b
}

// leaf and extension are nodes of a path's bytes, in hexadecimal digits, and of what is behind it.
func leaf(packed string, value string) api.Item {
	return list(text(string(unhex(packed))), text(value))
}

func extension(packed string, ref api.Item) api.Item {
	return list(text(string(unhex(packed))), ref)
}

// fork is a node of 17 items: some of them by their places, the others empty.
func fork(at map[int]api.Item) api.Item {
	l := make([]api.Item, 17)
	for i, x := range at {
		l[i] = x
	}
	return list(l...)
}

// hashOf is the reference by hash of a node of these bytes.
func hashOf(b []byte) api.Item {
	h := keccak.Sum(b)
	return text(string(h[:]))
}

// asVerify holds what Verify answers against the chapter's words, and tells the error.
func asVerify(t *testing.T, root api.Hash, key []byte, proof [][]byte) api.Errno {
	t.Helper()
	value, e := trie.Verify(root, key, proof)
	want, wrong := toldVerify(root, key, proof)
	same(t, "Verify's error", e, wrong, digits(root[:]), digits(key), allDigits(proof))
	equal(t, "Verify", value, want, digits(root[:]), digits(key), allDigits(proof))
	return e
}

// verified is what Verify tells of a key by a proof, with the root that is the first one's hash.
func verified(t *testing.T, key string, proof ...[]byte) (string, api.Errno) {
	t.Helper()
	root := keccak.Sum(proof[0])
	asVerify(t, root, []byte(key), proof)
	value, e := trie.Verify(root, []byte(key), proof)
	return string(value), e
}

// One node, in which no other one is reached by a hash; keys 12 and others.
func TestP14_3VerifyOneNode(t *testing.T) {
	one, two := leaf("201234", "one"), leaf("20", "two")
	for i, c := range []struct {
		x     api.Item
		key   string
		value string
		want  api.Errno
	}{
		{one, "1234", "one", api.OK},
		{one, "", "", api.ErrNone},
		{one, "12", "", api.ErrNone},
		{one, "123456", "", api.ErrNone},
		{one, "1235", "", api.ErrNone},
		{two, "", "two", api.OK},
		{two, "00", "", api.ErrNone},
		{leaf("312f", "x"), "12", "", api.ErrNone},
		{leaf("20", ""), "", "", api.ErrNone},
		{leaf("201234", ""), "1234", "", api.ErrNone},
		// A value that is a list, come to or not.
		{list(text("\x20\x12"), list()), "12", "", api.ErrForm},
		{list(text("\x20\x12"), list(text("a"))), "12", "", api.ErrForm},
		{list(text("\x20\x12"), list()), "13", "", api.ErrNone},
		{list(text("\x20\x12"), list()), "", "", api.ErrNone},
		{fork(map[int]api.Item{16: list(text("a"))}), "", "", api.ErrForm},
		{fork(map[int]api.Item{16: list()}), "", "", api.ErrForm},
		{fork(map[int]api.Item{16: list()}), "12", "", api.ErrNone},
		{fork(map[int]api.Item{16: list(), 1: leaf("32", "v")}), "12", "v", api.OK},
		// A first item that is no path.
		{list(text(""), text("v")), "", "", api.ErrForm},
		{list(text("\x40"), text("v")), "", "", api.ErrForm},
		{list(text("\x21"), text("v")), "", "", api.ErrForm},
		{list(text("\x01"), text("v")), "", "", api.ErrForm},
		{list(text("\xf1"), text("v")), "", "", api.ErrForm},
		{list(list(), text("v")), "", "", api.ErrForm},
		{list(list(text("\x20")), text("v")), "", "", api.ErrForm},
		{list(text("\x40"), text("v")), "12", "", api.ErrForm},
		// Other lists are no nodes, nor are bytes; an empty item is one.
		{list(), "", "", api.ErrForm},
		{list(text("\x20")), "", "", api.ErrForm},
		{list(text("\x20"), text("v"), text("")), "", "", api.ErrForm},
		{list(make([]api.Item, 16)...), "", "", api.ErrForm},
		{list(make([]api.Item, 18)...), "", "", api.ErrForm},
		{list(make([]api.Item, 16)...), "12", "", api.ErrForm},
		{list(make([]api.Item, 17)...), "", "", api.ErrNone},
		{list(make([]api.Item, 17)...), "12", "", api.ErrNone},
		{text(""), "", "", api.ErrNone},
		{text(""), "12", "", api.ErrNone},
		{text("\x00"), "12", "", api.ErrForm},
		{text("\x20"), "", "", api.ErrForm},
		{text(strings.Repeat("a", 32)), "", "", api.ErrForm},
		{text(strings.Repeat("a", 40)), "", "", api.ErrForm},
		// References: of an empty item none, of a list a node, however long; other bytes are none.
		{extension("1f", text("")), "", "", api.ErrNone},
		{extension("11", text("")), "12", "", api.ErrNone},
		{extension("11", text("a")), "12", "", api.ErrForm},
		{extension("11", text(strings.Repeat("a", 31))), "12", "", api.ErrForm},
		{extension("11", text(strings.Repeat("a", 32))), "12", "", api.ErrForm},
		{extension("11", text(strings.Repeat("a", 33))), "12", "", api.ErrForm},
		{extension("11", text("a")), "22", "", api.ErrNone},
		{extension("11", text("a")), "", "", api.ErrNone},
		{extension("11", leaf("32", "v")), "12", "v", api.OK},
		{extension("11", leaf("32", strings.Repeat("v", 100))), "12", strings.Repeat("v", 100), api.OK},
		{extension("11", leaf("32", "v")), "13", "", api.ErrNone},
		{extension("0012", leaf("20", "v")), "12", "v", api.OK},
		{extension("0012", leaf("20", "v")), "1234", "", api.ErrNone},
		{extension("0012", fork(map[int]api.Item{16: text("v")})), "12", "v", api.OK},
		{extension("0012", fork(map[int]api.Item{16: text("v"), 3: leaf("34", "w")})), "1234", "w", api.OK},
		{extension("00", leaf("2012", "v")), "12", "v", api.OK},
		{extension("00", extension("00", leaf("2012", "v"))), "12", "v", api.OK},
		{extension("11", list()), "12", "", api.ErrForm},
		{extension("11", list(text("a"))), "12", "", api.ErrForm},
		{fork(map[int]api.Item{1: text("a")}), "12", "", api.ErrForm},
		{fork(map[int]api.Item{1: text("a")}), "22", "", api.ErrNone},
		{fork(map[int]api.Item{1: text("a"), 16: text("v")}), "", "v", api.OK},
		{fork(map[int]api.Item{1: text(strings.Repeat("a", 32))}), "12", "", api.ErrForm},
		{fork(map[int]api.Item{1: leaf("31", "u"), 2: leaf("32", "v")}), "22", "v", api.OK},
		{fork(map[int]api.Item{1: leaf("31", "u"), 2: leaf("32", "v")}), "23", "", api.ErrNone},
		{fork(map[int]api.Item{15: leaf("3f", "v")}), "ff", "v", api.OK},
		{fork(map[int]api.Item{0: leaf("30", "v")}), "00", "v", api.OK},
		{fork(map[int]api.Item{0: list(text("\x30"), list())}), "01", "", api.ErrNone},
	} {
		value, e := verified(t, string(unhex(c.key)), encoded(c.x))
		same(t, "Verify's error", e, c.want, i, digits(encoded(c.x)), c.key)
		same(t, "Verify", value, c.value, i, digits(encoded(c.x)), c.key)
	}
}

// Nodes that are reached by a hash, and what is wrong with some of them.
func TestP14_3VerifyByHash(t *testing.T) {
	last := encoded(leaf("34", "value"))
	other := encoded(leaf("34", "other"))
	middle := encoded(fork(map[int]api.Item{3: hashOf(last), 16: text("here")}))
	first := encoded(extension("0012", hashOf(middle)))
	empty := []byte{0x80}
	type l = [][]byte
	for i, c := range []struct {
		key   string
		proof l
		value string
		want  api.Errno
	}{
		{"1234", l{first, middle, last}, "value", api.OK},
		{"12", l{first, middle}, "here", api.OK},
		{"1244", l{first, middle}, "", api.ErrNone},
		{"1233", l{first, middle, last}, "", api.ErrNone},
		{"123456", l{first, middle, last}, "", api.ErrNone},
		{"22", l{first}, "", api.ErrNone},
		{"", l{first}, "", api.ErrNone},
		// Too few.
		{"1234", l{first, middle}, "", api.ErrForm},
		{"1234", l{first}, "", api.ErrForm},
		{"12", l{first}, "", api.ErrForm},
		// More than the way needs, be there a value or none.
		{"1234", l{first, middle, last, last}, "", api.ErrForm},
		{"1234", l{first, middle, last, nil}, "", api.ErrForm},
		{"1234", l{first, middle, last, empty}, "", api.ErrForm},
		{"12", l{first, middle, last}, "", api.ErrForm},
		{"1244", l{first, middle, last}, "", api.ErrForm},
		{"22", l{first, middle}, "", api.ErrForm},
		{"", l{first, middle}, "", api.ErrForm},
		// Others, or in another order.
		{"1234", l{first, middle, other}, "", api.ErrForm},
		{"1234", l{first, last, middle}, "", api.ErrForm},
		{"1234", l{first, last}, "", api.ErrForm},
		{"1234", l{first, middle, nil}, "", api.ErrForm},
		{"1234", l{first, first, middle, last}, "", api.ErrForm},
		{"1234", l{first, middle, middle, last}, "", api.ErrForm},
		{"34", l{middle, last}, "value", api.OK},
		{"1234", l{middle, last}, "", api.ErrForm},
		// An empty item is a node behind a hash, too.
		{"12", l{encoded(extension("0012", hashOf(empty))), empty}, "", api.ErrNone},
		{"1234", l{encoded(fork(map[int]api.Item{1: hashOf(empty)})), empty}, "", api.ErrNone},
		{"12", l{encoded(extension("0012", hashOf(empty)))}, "", api.ErrForm},
		{"12", l{empty, empty}, "", api.ErrForm},
		// What has the hash, and is no node: bytes that rlp refuses, and other items.
		{"12", l{encoded(extension("0012", hashOf(append(bytes.Clone(empty), 0)))), {0x80, 0}}, "", api.ErrForm},
		{"12", l{encoded(extension("0012", hashOf(nil))), nil}, "", api.ErrForm},
		{"12", l{encoded(extension("0012", hashOf([]byte{0x12}))), {0x12}}, "", api.ErrForm},
		{"12", l{encoded(extension("0012", hashOf([]byte{0xc0}))), {0xc0}}, "", api.ErrForm},
		{"34", l{append(bytes.Clone(last), 0)}, "", api.ErrForm},
		{"34", l{last[:len(last)-1]}, "", api.ErrForm},
		{"34", l{append([]byte{0xf8, last[0] - 0xc0}, last[1:]...)}, "", api.ErrForm},
		{"34", l{nil}, "", api.ErrForm},
		{"", l{{}}, "", api.ErrForm},
	} {
		value, e := verified(t, string(unhex(c.key)), c.proof...)
		same(t, "Verify's error", e, c.want, i, c.key)
		same(t, "Verify", value, c.value, i, c.key)
	}
	for _, root := range []api.Hash{{}, keccak.Sum(nil), keccak.Sum(last), keccak.Sum(empty)} {
		same(t, "Verify with no proof", asVerify(t, root, nil, nil), api.ErrForm)
		same(t, "Verify with no proof", asVerify(t, root, []byte{1}, [][]byte{}), api.ErrForm)
		same(t, "Verify with another root", asVerify(t, root, unhex("1234"), l{first, middle, last}), api.ErrForm)
	}
}

// No bit of a root, or of a node, may be another one; nor of the key, unless that has no value either.
func TestP14_3VerifyEachBit(t *testing.T) {
	m := pairs{"do": "verb", "dog": "puppy", "doge": "coin", "horse": strings.Repeat("stallion", 5), "": "none"}
	got := m.trie(t)
	root := got.Root()
	for _, name := range append(m.keys(), "d", "dot", "hors", "cat") {
		key := []byte(name)
		proof := got.Prove(key)
		for i := range 8 * len(root) {
			other := root
			other[i/8] ^= 1 << (i % 8)
			same(t, "Verify with another root", asVerify(t, other, key, proof), api.ErrForm, i)
		}
		for _, b := range proof {
			for i := range 8 * len(b) {
				b[i/8] ^= 1 << (i % 8)
				same(t, "Verify with another node", asVerify(t, root, key, proof), api.ErrForm, i)
				b[i/8] ^= 1 << (i % 8)
			}
		}
		for i := range 8 * len(key) {
			other := bytes.Clone(key)
			other[i/8] ^= 1 << (i % 8)
			if e := asVerify(t, root, other, proof); e == api.OK {
				t.Fatalf("the proof of %q proves that %q has a value", key, other)
			}
		}
		same(t, "Verify with its own", asVerify(t, root, key, proof) == api.ErrForm, false)
	}
}

// Bytes that rlp just takes, and just refuses: many items, deep lists, many bytes.
func TestP14_3VerifyLimits(t *testing.T) {
	deep := func(n int) api.Item {
		x := list()
		for range n - 1 {
			x = list(x)
		}
		return x
	}
	junk := func(x api.Item) api.Item { return fork(map[int]api.Item{5: x, 16: text("v")}) }
	value, e := verified(t, "", encoded(junk(deep(63))))
	same(t, "Verify with deep junk", e, api.OK)
	same(t, "Verify with deep junk", value, "v")
	b := encoded(deep(64))
	within := append(slices.Repeat([]byte{0x80}, 5), b...)
	within = append(append(within, slices.Repeat([]byte{0x80}, 10)...), 'v')
	_, e = verified(t, "", append([]byte(toldHead(0xc0, len(within))), within...))
	same(t, "Verify with junk that is too deep", e, api.ErrForm)

	x := leaf("20", "v")
	for range 62 {
		x = extension("00", x)
	}
	value, e = verified(t, "", encoded(x))
	same(t, "Verify with nodes deep in one another", e, api.OK)
	same(t, "Verify with nodes deep in one another", value, "v")

	wide := list(make([]api.Item, 65536-18)...)
	value, e = verified(t, "", encoded(junk(wide)))
	same(t, "Verify with much junk", e, api.OK)
	same(t, "Verify with much junk", value, "v")
	many := append(slices.Repeat([]byte{0x80}, 5), toldList(slices.Repeat([]string{"\x80"}, 65536-17)...)...)
	many = append(append(many, slices.Repeat([]byte{0x80}, 10)...), 'v')
	_, e = verified(t, "", append([]byte(toldHead(0xc0, len(many))), many...))
	same(t, "Verify with too much junk", e, api.ErrForm)

	// A list of two: the head of it, of the value, and the path's byte.
	most := api.MaxRLP - 4 - 4 - 1
	value, e = verified(t, "", encoded(leaf("20", strings.Repeat("v", most))))
	same(t, "Verify with a long value", e, api.OK)
	same(t, "how long the value is", len(value), most)
	_, e = verified(t, "", []byte(toldList("\x20", toldText(strings.Repeat("v", most+1)))))
	same(t, "Verify with a value that is too long", e, api.ErrForm)
}

// A key may be longer than a map's; so may be a proof, if its paths are empty.
func TestP14_3VerifyLong(t *testing.T) {
	key := counted(100000)
	path := append([]byte{0x20}, key...)
	value, e := verified(t, string(key), encoded(list(text(string(path)), text("v"))))
	same(t, "Verify of a long key", e, api.OK)
	same(t, "Verify of a long key", value, "v")
	_, e = verified(t, string(key[1:]), encoded(list(text(string(path)), text("v"))))
	same(t, "Verify of another long key", e, api.ErrNone)

	proof := [][]byte{encoded(leaf("20", strings.Repeat("v", 40)))}
	for range 100000 {
		proof = append(proof, encoded(extension("00", hashOf(proof[len(proof)-1]))))
	}
	slices.Reverse(proof)
	b, e := trie.Verify(keccak.Sum(proof[0]), nil, proof)
	same(t, "Verify of a long proof", e, api.OK)
	equal(t, "Verify of a long proof", b, bytes.Repeat([]byte("v"), 40))
	_, e = trie.Verify(keccak.Sum(proof[0]), nil, proof[:len(proof)-1])
	same(t, "Verify of a long proof without its end", e, api.ErrForm)
}

// What a key has, or that it has nothing, is proved of all of some maps.
func TestP14_6Proofs(t *testing.T) {
	d := draw(61)
	for _, m := range samples(d, 400) {
		got := m.trie(t)
		root := got.Root()
		for _, key := range append(near(d, m, 6), few()...) {
			proof := got.Prove([]byte(key))
			value, e := trie.Verify(root, []byte(key), proof)
			want, there := got.Get([]byte(key))
			same(t, "whether Verify tells a value", e == api.OK, there, digits([]byte(key)))
			same(t, "whether Verify tells that there is none", e == api.ErrNone, !there, digits([]byte(key)))
			equal(t, "Verify", value, want, digits([]byte(key)))
			alike(t, "Prove once more", got.Prove([]byte(key)), proof)
			asVerify(t, root, []byte(key), append(proof, proof[len(proof)-1]))
			asVerify(t, root, []byte(key), proof[:len(proof)-1])
		}
	}
}

// All subsets of a few keys, and all of these keys.
func TestP14_6Subsets(t *testing.T) {
	for which := range 1 << len(few()) {
		m := subset(which, []int{1, 7, 33}[which%3])
		got := m.trie(t)
		for _, key := range few() {
			value, e := trie.Verify(got.Root(), []byte(key), got.Prove([]byte(key)))
			want := api.OK
			if m[key] == "" {
				want = api.ErrNone
			}
			same(t, "Verify's error", e, want, which, digits([]byte(key)))
			equal(t, "Verify", value, []byte(m[key]), which, digits([]byte(key)))
		}
	}
}

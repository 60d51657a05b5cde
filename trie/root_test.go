package trie_test

import (
	"slices"
	"strings"
	"testing"

	"bailiwick/api"
	"bailiwick/rlp"
	"bailiwick/trie"
	"bailiwick/word"
)

func TestP14_2Example(t *testing.T) {
	want := api.Hash(unhex("56e81f171bcc55a6ff8345e692c0f86e5b48e01b996cadc001622fb5e363b421"))
	same(t, "the empty map's Root", trie.New().Root(), want)
	h, e := trie.Root(nil, nil)
	same(t, "Root of none", h, want)
	same(t, "the error of Root of none", e, api.OK)
	h, e = trie.List([][]byte{})
	same(t, "List of none", h, want)
	same(t, "the error of List of none", e, api.OK)
}

// hashed holds all that tells a map's hash against the chapter's words.
func hashed(t *testing.T, m pairs) {
	t.Helper()
	want := toldRoot(m)
	same(t, "Root", m.trie(t).Root(), want, m)
	keys, values := m.lists()
	h, e := trie.Root(keys, values)
	same(t, "the Root of keys and values", h, want, m)
	same(t, "the error of the Root of keys and values", e, api.OK, m)
	slices.Reverse(keys)
	slices.Reverse(values)
	h, e = trie.Root(keys, values)
	same(t, "the Root of keys and values the other way", h, want, m)
	same(t, "the error of the Root of keys and values the other way", e, api.OK, m)
}

// All subsets of a few keys, with values of which nodes are shorter than a hash, and such of which they are not.
func TestP14_2Subsets(t *testing.T) {
	for which := range 1 << len(few()) {
		for _, size := range []int{1, 7, 40} {
			hashed(t, subset(which, size))
		}
	}
}

func TestP14_2Samples(t *testing.T) {
	for _, m := range samples(draw(21), 1500) {
		hashed(t, m)
	}
}

// One pair whose node is of each length about 32 bytes, with each length of its key.
func TestP14_2OnePair(t *testing.T) {
	for key := range 65 {
		for value := 1; value < 60; value++ {
			m := pairs{string(counted(key)): string(counted(value))}
			same(t, "Root", m.trie(t).Root(), toldRoot(m), key, value)
		}
	}
}

// Two pairs that part at each nibble, with values of each length, so that what is below is told by its hash, or itself.
func TestP14_2TwoPairs(t *testing.T) {
	for at := range 64 {
		for _, bit := range []byte{0x01, 0x10} {
			for size := 1; size < 36; size++ {
				one, other := counted(64), counted(64)
				other[at] ^= bit
				m := pairs{string(one): string(counted(size)), string(other[:max(at+1, 60)]): "z"}
				same(t, "Root", m.trie(t).Root(), toldRoot(m), at, bit, size)
			}
		}
	}
}

// A byte that is below 80 stands for itself as a value, and in a path.
func TestP14_2Bytes(t *testing.T) {
	for x := range 256 {
		b := string([]byte{byte(x)})
		hashed(t, pairs{b: b})
		hashed(t, pairs{b: b, "": b})
		hashed(t, pairs{b: b, b + b: b, b + "\x00": "\x00"})
	}
}

// The first pair that has an error tells it: Put's, or that its key was there.
func TestP14_2RootRefuses(t *testing.T) {
	long, longValue := counted(65), counted(1<<16+1)
	a, b, x := []byte("a"), []byte("b"), []byte("x")
	type l = [][]byte
	for i, c := range []struct {
		keys, values l
		want         api.Errno
	}{
		{l{a}, nil, api.ErrArg},
		{nil, l{x}, api.ErrArg},
		{l{a, b}, l{x}, api.ErrArg},
		{l{a}, l{x, x}, api.ErrArg},
		{l{long}, l{x, x}, api.ErrArg},
		{l{a, a}, l{x, x, x}, api.ErrArg},
		{l{a, a}, l{x, x}, api.ErrThere},
		{l{nil, {}}, l{x, x}, api.ErrThere},
		{l{a, b, a}, l{x, x, b}, api.ErrThere},
		{l{a, a}, l{x, nil}, api.ErrArg},
		{l{a, a}, l{x, longValue}, api.ErrLong},
		{l{a, a, long}, l{x, x, x}, api.ErrThere},
		{l{a, long, a}, l{x, x, x}, api.ErrLong},
		{l{long, a, a}, l{x, x, x}, api.ErrLong},
		{l{a, b, a}, l{x, nil, x}, api.ErrArg},
		{l{a, b, b}, l{nil, x, x}, api.ErrArg},
		{l{a, long, b}, l{x, nil, nil}, api.ErrLong},
		{l{a, b, long}, l{x, nil, x}, api.ErrArg},
		{l{a, b}, l{x, x}, api.OK},
	} {
		h, e := trie.Root(c.keys, c.values)
		same(t, "Root's error", e, c.want, i)
		want := api.Hash{}
		if c.want == api.OK {
			want = toldRoot(pairs{"a": "x", "b": "x"})
		}
		same(t, "Root", h, want, i)
	}
}

// A key that is there twice, wherever among many.
func TestP14_2RootTwice(t *testing.T) {
	d := draw(22)
	for range 300 {
		m := drawn(d, 30)
		if len(m) < 2 {
			continue
		}
		keys, values := m.lists()
		i, j := d.IntN(len(keys)), d.IntN(len(keys))
		keys[i] = keys[j]
		_, e := trie.Root(keys, values)
		same(t, "whether Root refuses", e == api.ErrThere, i != j, i, j)
	}
}

// numbered are values by their numbers' rlp, whose bytes are told by hand.
func numbered(values [][]byte) pairs {
	out := pairs{}
	for i, value := range values {
		key := []byte{byte(i >> 16), byte(i >> 8), byte(i)}
		for len(key) > 0 && key[0] == 0 {
			key = key[1:]
		}
		out[toldText(string(key))] = string(value)
	}
	return out
}

// As many as make keys of one byte, of two, of three and four; a value is as long as may be.
func TestP14_2List(t *testing.T) {
	d := draw(23)
	for _, n := range []int{0, 1, 2, 3, 15, 16, 17, 126, 127, 128, 129, 130, 255, 256, 257, 258, 1000, 65535, 65536, 65537, 65600} {
		var values [][]byte
		for range n {
			values = append(values, []byte(drawnValue(d)))
		}
		if n == 3 {
			values[1] = counted(1 << 16)
		}
		h, e := trie.List(values)
		same(t, "List's error", e, api.OK, n)
		same(t, "List", h, toldRoot(numbered(values)), n)
	}
}

func TestP14_2ListRefuses(t *testing.T) {
	longest, tooLong := counted(1<<16), counted(1<<16+1)
	type l = [][]byte
	for i, c := range []struct {
		values l
		want   api.Errno
	}{
		{l{nil}, api.ErrArg},
		{l{{1}, {}}, api.ErrArg},
		{l{tooLong}, api.ErrLong},
		{l{{1}, tooLong, nil}, api.ErrLong},
		{l{{1}, nil, tooLong}, api.ErrArg},
		{l{longest, {1}, {1}}, api.OK},
	} {
		h, e := trie.List(c.values)
		same(t, "List's error", e, c.want, i)
		same(t, "whether List tells noughts", h == api.Hash{}, c.want != api.OK, i)
	}
}

// List is the Root of the map whose keys are Number's bytes.
func TestP14_2ListIsRoot(t *testing.T) {
	var keys, values [][]byte
	for i := range uint64(300) {
		key, _ := rlp.Encode(rlp.Number(word.Of(i)))
		keys = append(keys, key)
		values = append(values, counted(1+int(i)))
		a, e := trie.Root(keys, values)
		same(t, "Root's error", e, api.OK, i)
		b, e := trie.List(values)
		same(t, "List's error", e, api.OK, i)
		same(t, "List", b, a, i)
	}
}

// The same pairs by many ways: in any order, put twice, with others that go again, with Root asked for now and then.
func TestP14_4OneHash(t *testing.T) {
	d := draw(41)
	for _, m := range samples(d, 400) {
		want := toldRoot(m)
		for range 4 {
			got := trie.New()
			keys := m.keys()
			d.Shuffle(len(keys), func(i, j int) { keys[i], keys[j] = keys[j], keys[i] })
			for _, key := range keys {
				for d.IntN(3) == 0 {
					got.Put([]byte(pick(d, keys)), []byte(drawnValue(d)))
					got.Put([]byte(drawnKey(d)), []byte(drawnValue(d)))
				}
				if d.IntN(10) == 0 {
					got.Root()
				}
				if d.IntN(20) == 0 {
					got = got.Copy()
				}
				got.Put([]byte(key), []byte(m[key]))
			}
			for key := range got.All() {
				if _, wanted := m[string(key)]; !wanted {
					same(t, "Delete", got.Delete(key), true)
				}
			}
			for _, key := range keys {
				got.Put([]byte(key), []byte(m[key]))
			}
			same(t, "Root", got.Root(), want)
			same(t, "Root once more", got.Root(), want)
			same(t, "Root of a copy", got.Copy().Root(), want)
		}
	}
}

// All orders of a few keys of all shapes.
func TestP14_4AllOrders(t *testing.T) {
	for which := range 1 << len(few()) {
		m := subset(which, 3)
		if len(m) != 4 {
			continue
		}
		want := toldRoot(m)
		orders(m.keys(), func(keys []string) {
			got := trie.New()
			for _, key := range keys {
				got.Put([]byte(key), []byte(m[key]))
			}
			same(t, "Root", got.Root(), want, keys)
			got.Delete([]byte(keys[2]))
			got.Put([]byte(keys[2]), []byte(m[keys[2]]))
			same(t, "Root behind Delete and Put", got.Root(), want, keys)
		})
	}
}

// orders does work with all orders of l.
func orders(l []string, work func(l []string)) {
	var from func(n int)
	from = func(n int) {
		if n == len(l) {
			work(l)
		}
		for i := n; i < len(l); i++ {
			l[n], l[i] = l[i], l[n]
			from(n + 1)
			l[n], l[i] = l[i], l[n]
		}
	}
	from(0)
}

// Other pairs have another hash.
func TestP14_4AnotherHash(t *testing.T) {
	seen := map[api.Hash]string{}
	for which := range 1 << len(few()) {
		for _, size := range []int{1, 2, 33} {
			m := subset(which, size)
			if which == 0 && size > 1 {
				continue
			}
			h := m.trie(t).Root()
			text := strings.Join(m.keys(), ",") + " " + string(rune('0'+size))
			if other, there := seen[h]; there {
				t.Fatalf("%q and %q have one Root", other, text)
			}
			seen[h] = text
		}
	}
}

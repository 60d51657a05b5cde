package trie_test

import (
	"bytes"
	"slices"
	"testing"
	"unsafe"

	"bailiwick/api"
	"bailiwick/trie"
)

// roomy is b in a list with spare room that holds something.
func roomy(b []byte) []byte {
	return append(slices.Clone(b), counted(40)...)[:len(b)]
}

// roomyList is lists with spare room, in one that has some.
func roomyList(l [][]byte) [][]byte {
	var out [][]byte
	for _, b := range l {
		out = append(out, roomy(b))
	}
	return append(out, roomy([]byte("spare")), roomy(nil))[:len(l)]
}

// wholly is all that lists hold, in all spare room.
func wholly(l ...[]byte) string {
	out := ""
	for _, b := range l[:cap(l)] {
		out += digits(b[:cap(b)]) + ","
	}
	return out
}

// spoil changes all of a list, its spare room too.
func spoil(b []byte) {
	for i := range b[:cap(b)] {
		b[:cap(b)][i] ^= 0x5a
	}
}

// apart looks whether no two lists, their spare room included, share memory.
func apart(t *testing.T, what string, l ...[]byte) {
	t.Helper()
	all := slices.DeleteFunc(slices.Clone(l), func(b []byte) bool { return cap(b) == 0 })
	from := func(b []byte) uintptr { return uintptr(unsafe.Pointer(unsafe.SliceData(b))) }
	slices.SortFunc(all, func(a, b []byte) int { return int(from(a)) - int(from(b)) })
	for i, b := range all[1:] {
		if from(b) < from(all[i])+uintptr(cap(all[i])) {
			t.Fatalf("two lists of %s, or of what was handed in, share memory", what)
		}
	}
}

// What is handed in stays as it is, its spare room included.
func TestP14_1ChangesNothing(t *testing.T) {
	d := draw(81)
	for range 300 {
		m := drawn(d, 20)
		keys, values := m.lists()
		keys, values = roomyList(keys), roomyList(values)
		key, value := roomy([]byte(drawnKey(d))), roomy([]byte(drawnValue(d)))
		was := []string{wholly(keys...), wholly(values...), wholly(key), wholly(value)}
		got := trie.New()
		for i := range keys {
			got.Put(keys[i], values[i])
		}
		trie.Root(keys, values)
		trie.List(values)
		got.Put(key, value)
		got.Get(key)
		proof := roomyList(got.Prove(key))
		proofWas := wholly(proof...)
		trie.Verify(got.Root(), key, proof)
		trie.Verify(api.Hash{}, key, proof)
		same(t, "the proof handed in", wholly(proof...), proofWas)
		got.Delete(key)
		for i := range keys {
			got.Delete(keys[i])
		}
		for i, now := range []string{wholly(keys...), wholly(values...), wholly(key), wholly(value)} {
			same(t, "what was handed in", now, was[i], i)
		}
	}
}

// What was handed in, and what was answered, may be changed: a map does not.
func TestP14_1KeepsNothing(t *testing.T) {
	d := draw(82)
	for range 200 {
		m := drawn(d, 20)
		got := trie.New()
		for key, value := range m {
			k, v := roomy([]byte(key)), roomy([]byte(value))
			got.Put(k, v)
			spoil(k)
			spoil(v)
		}
		m.holds(t, "a map whose keys and values were changed", got)
		root := got.Root()
		for key, value := range got.All() {
			spoil(key)
			spoil(value)
		}
		for _, key := range near(d, m, 5) {
			value, _ := got.Get([]byte(key))
			spoil(value)
			k := roomy([]byte(key))
			for _, b := range got.Prove(k) {
				spoil(b)
			}
			got.Delete(nil)
			spoil(k)
			if none, there := m[""]; there {
				got.Put(nil, []byte(none))
			}
			alike(t, "Prove", got.Prove([]byte(key)), toldProve(m, key))
		}
		m.holds(t, "a map whose answers were changed", got)
		same(t, "Root", got.Root(), root)
		same(t, "Root", root, toldRoot(m))
	}
}

// Verify's answer is not what was handed in.
func TestP14_3KeepsNothing(t *testing.T) {
	d := draw(83)
	for range 200 {
		m := drawn(d, 20)
		got := m.trie(t)
		for key, value := range m {
			proof := roomyList(got.Prove([]byte(key)))
			answer, e := trie.Verify(got.Root(), []byte(key), proof)
			same(t, "Verify's error", e, api.OK)
			for _, b := range proof {
				spoil(b)
			}
			equal(t, "Verify", answer, []byte(value), digits([]byte(key)))
		}
	}
}

// All that is answered is in memory of its own, spare room too.
func TestP14_1NewMemory(t *testing.T) {
	d := draw(84)
	for range 200 {
		m := drawn(d, 20)
		got := trie.New()
		var all [][]byte
		for key, value := range m {
			k, v := roomy([]byte(key)), roomy([]byte(value))
			got.Put(k, v)
			all = append(all, k, v)
		}
		for range 2 {
			for key, value := range got.All() {
				all = append(all, key, value)
			}
			for key := range m {
				value, _ := got.Get([]byte(key))
				other, _ := got.Copy().Get([]byte(key))
				proof := got.Prove([]byte(key))
				verified, _ := trie.Verify(got.Root(), []byte(key), proof)
				all = append(append(all, value, other, verified), proof...)
			}
		}
		all = append(all, bytes.Clone([]byte("a")), []byte("b"))
		apart(t, "what is answered", all...)
	}
	first, again := trie.New().Prove(nil), trie.New().Prove(nil)
	apart(t, "what is answered of none", first[0], again[0])
}

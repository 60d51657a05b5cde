package nibble_test

import (
	"slices"
	"testing"
	"unsafe"

	"bailiwick/nibble"
)

// roomy is b in a list with spare room that holds something.
func roomy(b []byte) []byte {
	return append(slices.Clone(b), counted(40)...)[:len(b)]
}

// few are lists of all kinds, nibbles, paths and none among them.
func few() [][]byte {
	d := draw(51)
	out := [][]byte{nil, {}, {0}, {1}, {16}, {0, 16}, {0x20}, {0x11}, {0x31, 0x23}, {0x20, 0xff}, {0x21}, {0x40, 1}}
	for n := range 40 {
		out = append(out, drawnBytes(d, n), drawnNibbles(d, n), append([]byte{0x20}, drawnBytes(d, n)...), append([]byte{0x17}, drawnBytes(d, n)...))
	}
	return out
}

// answers are all that the package answers of a list.
func answers(b []byte) [][]byte {
	bytes, _ := nibble.Bytes(b)
	path, _ := nibble.Pack(b, false)
	leaf, _ := nibble.Pack(b, true)
	rest, _, _ := nibble.Unpack(b)
	nibble.Common(b, b)
	return [][]byte{nibble.Of(b), bytes, path, leaf, rest}
}

// What is handed in stays as it is, its spare room included.
func TestP13_2ChangesNothing(t *testing.T) {
	for _, x := range few() {
		b := roomy(x)
		kept := slices.Clone(b[:cap(b)])
		other := roomy(x)
		answers(b)
		nibble.Common(b, other)
		nibble.Common(other, b)
		equal(t, "what was handed in", b[:cap(b)], kept, digits(x))
		equal(t, "the other one handed in", other[:cap(other)], kept, digits(x))
	}
}

// No two lists, their spare room included, share memory.
func TestP13_2NewMemory(t *testing.T) {
	for _, x := range few() {
		b := roomy(x)
		all := append(append([][]byte{b}, answers(b)...), answers(b)...)
		all = slices.DeleteFunc(all, func(l []byte) bool { return cap(l) == 0 })
		from := func(l []byte) uintptr { return uintptr(unsafe.Pointer(unsafe.SliceData(l))) }
		slices.SortFunc(all, func(a, b []byte) int { return int(from(a)) - int(from(b)) })
		for i, l := range all[1:] {
			if from(l) < from(all[i])+uintptr(cap(all[i])) {
				t.Fatalf("two lists of what is answered of %s, or of what was handed in, share memory", digits(x))
			}
		}
	}
}

// An answer stays as it is when what was handed in is changed.
func TestP13_2KeepsNothing(t *testing.T) {
	for _, x := range few() {
		b := roomy(x)
		got := answers(b)
		for i := range b[:cap(b)] {
			b[:cap(b)][i] ^= 0x5a
		}
		for i, want := range answers(x) {
			equal(t, "what was answered", got[i], want, i, digits(x))
		}
	}
}

package rlp_test

import (
	"testing"

	"bailiwick/api"
	"bailiwick/rlp"
)

// encoded holds what Encode and Size answer for an item that can be.
func encoded(t *testing.T, x api.Item, want []byte, of ...any) {
	t.Helper()
	got, e := rlp.Encode(x)
	same(t, "Encode's error", e, api.OK, of...)
	equal(t, "Encode", got, want, of...)
	size, e := rlp.Size(x)
	same(t, "Size's error", e, api.OK, of...)
	same(t, "Size", size, len(want), of...)
}

// tooMuch holds what each call answers that is given an item that can't be.
func tooMuch(t *testing.T, x api.Item, of ...any) {
	t.Helper()
	b, e := rlp.Encode(x)
	same(t, "Encode's error", e, api.ErrLong, of...)
	same(t, "how many bytes of Encode", len(b), 0, of...)
	size, e := rlp.Size(x)
	same(t, "Size's error", e, api.ErrLong, of...)
	same(t, "Size", size, 0, of...)
	text, e := rlp.Print(x)
	same(t, "Print's error", e, api.ErrLong, of...)
	same(t, "Print", text, "", of...)
}

func TestP12_1Encode(t *testing.T) {
	for _, x := range samples(draw(1), 2000) {
		of := brief(toldPrint(x))
		encoded(t, x, toldBytes(x), of)
		encoded(t, junk(x), toldBytes(x), of, "with what plays no part")
	}
}

func TestP12_1EncodeEmpty(t *testing.T) {
	encoded(t, api.Item{}, []byte{0x80})
	encoded(t, api.Item{B: []byte{}, L: []api.Item{}}, []byte{0x80})
	encoded(t, api.Item{List: true}, []byte{0xc0})
	encoded(t, api.Item{List: true, B: []byte{}, L: []api.Item{}}, []byte{0xc0})
}

func TestP12_1EncodeOfManyBytes(t *testing.T) {
	encoded(t, long(1<<20-4), toldBytes(long(1<<20-4)))
	encoded(t, list(long(1<<20-8)), toldBytes(list(long(1<<20-8))))
	encoded(t, list(long(1<<20-9), text(1)), toldBytes(list(long(1<<20-9), text(1))))
	encoded(t, nested(64, long(1<<20-4*65)), toldBytes(nested(64, long(1<<20-4*65))))
	for _, n := range []int{1<<20 - 3, 1<<20 - 2, 1<<20 - 1, 1 << 20, 1<<20 + 1, 1 << 21, 1 << 24} {
		tooMuch(t, long(n), n)
		tooMuch(t, list(long(n)), n)
		tooMuch(t, list(text(1), list(long(n), text(1))), n)
	}
	tooMuch(t, list(long(1<<20-7)))
	tooMuch(t, list(long(1<<20-8), text(1)))
	tooMuch(t, list(text(), long(1<<20-8)))
	tooMuch(t, list(list(), long(1<<20-8)))
	tooMuch(t, list(long(1<<19), long(1<<19)))
	tooMuch(t, nested(64, long(1<<20-4*65+1)))
	tooMuch(t, nested(2, long(1<<20-11)))
}

// Lists at each size that their heads change at, the items' bytes being 1, 2 or more each.
func TestP12_1EncodeOfLists(t *testing.T) {
	for _, n := range edges() {
		x := list()
		for range min(n, 60000) {
			x.L = append(x.L, text(5))
		}
		encoded(t, x, toldBytes(x), n)
		x = list()
		for range min(n, 60000) / 2 {
			x.L = append(x.L, text(0x85))
		}
		encoded(t, x, toldBytes(x), n)
		encoded(t, list(list(), x), toldBytes(list(list(), x)), n)
	}
	for _, n := range []int{52, 53, 54, 55, 56, 57, 252, 253, 254, 255, 256, 65532, 65533, 65534, 65535, 65536, 1<<20 - 8} {
		encoded(t, list(long(n)), toldBytes(list(long(n))), n)
	}
}

func TestP12_1EncodeOfManyItems(t *testing.T) {
	for _, n := range []int{65534, 65535} {
		encoded(t, wide(n), toldBytes(wide(n)), n)
	}
	for _, n := range []int{65536, 65537, 100_000} {
		tooMuch(t, wide(n), n)
	}
	for _, each := range []int{0, 1, 2, 100, 255, 256, 40_000} {
		x := crowd(65536, each)
		same(t, "how many items", toldItems(x), 65536)
		encoded(t, x, toldBytes(x), each)
		tooMuch(t, crowd(65537, each), each)
		tooMuch(t, list(x), each)
		tooMuch(t, list(crowd(65535, each), text()), each)
		encoded(t, list(crowd(65534, each), text()), toldBytes(list(crowd(65534, each), text())), each)
	}
	tooMuch(t, list(junk(wide(32768)), junk(wide(32767))))
	encoded(t, list(junk(wide(32767)), junk(wide(32766))), toldBytes(list(wide(32767), wide(32766))))
}

func TestP12_1EncodeOfDeepItems(t *testing.T) {
	for _, inner := range []api.Item{text(), text(1), long(100), long(100_000)} {
		for _, n := range []int{1, 32, 63, 64} {
			x := nested(n, inner)
			encoded(t, x, toldBytes(x), n)
			encoded(t, junk(x), toldBytes(x), n)
		}
		for _, n := range []int{65, 66, 100, 5000, 60_000} {
			tooMuch(t, nested(n, inner), n)
		}
	}
	encoded(t, nested(63, list()), toldBytes(nested(63, list())))
	tooMuch(t, nested(63, list(list(), text(), list())))
}

// Lists that lie in one list are as deep as each by itself.
func TestP12_1EncodeOfManyDeepItems(t *testing.T) {
	x := list(nested(63, text(1)), text(2), nested(63, text(3)), nested(62, list()), nested(10, text(4)))
	encoded(t, x, toldBytes(x))
	tooMuch(t, list(nested(63, text(1)), nested(63, list())))
	tooMuch(t, list(nested(64, text(1)), text()))
	tooMuch(t, list(text(), nested(10, text()), nested(64, text(1))))
}

// What would never end, or take all memory, is given up.
func TestP12_1EncodeEnds(t *testing.T) {
	for _, times := range []int{1, 2, 3, 1000} {
		tooMuch(t, endless(times), times)
		tooMuch(t, list(text(1), endless(times)), times)
	}
	for _, n := range []int{16, 20, 40, 63, 64, 65, 1000} {
		tooMuch(t, doubled(n, text(1)), n)
		tooMuch(t, doubled(n, long(1000)), n)
	}
	tooMuch(t, doubled(10, long(1024)))
	tooMuch(t, doubled(14, long(64)))
	x := doubled(14, text(1))
	encoded(t, x, toldBytes(x))
	huge := list()
	for range 60_000 {
		huge.L = append(huge.L, long(1))
	}
	big := counted(1 << 24)
	for i := range huge.L {
		huge.L[i].B = big
	}
	tooMuch(t, huge)
}

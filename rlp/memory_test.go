package rlp_test

import (
	"slices"
	"testing"
	"unsafe"

	"bailiwick/api"
	"bailiwick/rlp"
	"bailiwick/word"
)

// roomy is b in a list with spare room that holds something.
func roomy(b []byte) []byte {
	return append(slices.Clone(b), counted(40)...)[:len(b)]
}

// roomyItem is x in new memory, all its lists with spare room that holds something.
func roomyItem(x api.Item) api.Item {
	out := api.Item{List: x.List, B: roomy(x.B)}
	for _, y := range x.L {
		out.L = append(out.L, roomyItem(y))
	}
	out.L = append(out.L, text(1), list(text(2)))[:len(out.L)]
	return out
}

// wholly is x's text, with what plays no part in it, and with what lies in all spare room.
func wholly(x api.Item) string {
	out := toldPrint(text(x.B[:cap(x.B)]...)) + "("
	if x.List {
		out = "list " + out
	}
	for _, y := range x.L[:cap(x.L)] {
		out += wholly(y) + " "
	}
	return out + ")"
}

// few are items of all kinds, with not too many bytes.
func few() []api.Item {
	return append(samples(draw(41), 60), list(text(1), text(2), list(text(3), list(), text(4, 5)), long(60)), list(long(300), long(2), list(text(), text())), junk(list(text(1), list(text(2)))))
}

// room is where a list lies, its spare room included.
type room struct{ from, to uintptr }

func roomOf[T any](l []T) room {
	var one T
	from := uintptr(unsafe.Pointer(unsafe.SliceData(l)))
	return room{from, from + uintptr(cap(l))*unsafe.Sizeof(one)}
}

// rooms are those of all lists of some items.
func rooms(l []api.Item) []room {
	var out []room
	for _, x := range l {
		out = append(out, roomOf(x.B), roomOf(x.L))
		out = append(out, rooms(x.L[:cap(x.L)])...)
	}
	return slices.DeleteFunc(out, func(r room) bool { return r.from == r.to })
}

// apart looks whether some lists of some items, handed in or answered, share memory.
func apart(t *testing.T, what string, l ...api.Item) {
	t.Helper()
	all := rooms(l)
	slices.SortFunc(all, func(a, b room) int {
		if a.from < b.from {
			return -1
		}
		return 1
	})
	for i, r := range all[1:] {
		if r.from < all[i].to {
			t.Fatalf("two lists of %s, or of what was handed in, share memory: %s", what, brief(toldPrint(list(l...))))
		}
	}
}

// What is handed in stays as it is, its spare room included.
func TestP12_1ChangesNothing(t *testing.T) {
	for _, from := range few() {
		x, y := roomyItem(from), roomyItem(from)
		was := wholly(x)
		rlp.Encode(x)
		rlp.Size(x)
		rlp.Print(x)
		rlp.ToNumber(x)
		rlp.Same(x, y)
		rlp.List(x, y)
		rlp.List(x.L...)
		rlp.Text(x.B)
		if wholly(x) != was || wholly(y) != was {
			t.Fatalf("%s was changed: %s", brief(was), brief(wholly(x)))
		}
		b := roomy(toldBytes(from))
		kept := slices.Clone(b[:cap(b)])
		rlp.Decode(b)
		rlp.Only(b)
		rlp.Decode(b[:len(b)/2])
		rlp.Only(b[:len(b)+3])
		equal(t, "what was handed in", b[:cap(b)], kept, brief(toldPrint(from)))
	}
}

func TestP12_1NewMemory(t *testing.T) {
	for _, from := range few() {
		b := roomy(toldBytes(from))
		x, _, _ := rlp.Decode(b)
		y, _, _ := rlp.Decode(b)
		z, _ := rlp.Only(b)
		apart(t, "what Decode and Only answer", x, y, z, text(b...))
		handed := roomyItem(from)
		apart(t, "what Encode answers", text(bytesOf(t, handed)...), text(bytesOf(t, handed)...), handed)
	}
}

func TestP12_2NewMemory(t *testing.T) {
	for _, from := range few() {
		x := roomyItem(from)
		apart(t, "what Text answers", rlp.Text(x.B), rlp.Text(x.B), x)
		apart(t, "what List answers", rlp.List(x.L...), rlp.List(x.L...), rlp.List(x), rlp.List(x, x), x)
	}
	apart(t, "what List answers of none", rlp.List(), rlp.List(), rlp.List(list()), rlp.List(list(), text()))
	for _, a := range numbers() {
		apart(t, "what Number answers", rlp.Number(a), rlp.Number(a), text(1))
	}
}

// An answer stays as it is when what was handed in is changed.
func TestP12_2KeepsNothing(t *testing.T) {
	b := unhex("c7 82 01 02 c3 03 81 ff")
	x, _, _ := rlp.Decode(b)
	made, listed := rlp.Text(b), rlp.List(x, x.L[0])
	text := toldPrint(x)
	clear(b)
	same(t, "Decode's answer", toldPrint(x), text)
	same(t, "Text's answer", toldPrint(made), "c7820102c30381ff")
	x.L[1].L[0].B[0], x.L[0].B[1] = 99, 99
	x.L[1].L[1] = api.Item{}
	same(t, "List's answer", toldPrint(listed), "["+text+",0102]")
	n := word.Of(258)
	number := rlp.Number(n)
	n[0] = 0
	same(t, "Number's answer", toldPrint(number), "0102")
}

package tx_test

import (
	"bytes"
	"fmt"
	"slices"
	"testing"
	"unsafe"

	"bailiwick/api"
	"bailiwick/tx"
	"bailiwick/word"
)

// roomy is l in a list with spare room that holds something.
func roomy[T any](l []T, spare ...T) []T {
	return append(slices.Clone(l), spare...)[:len(l)]
}

// roomyTx is x in new memory, all its lists with spare room that holds something.
func roomyTx(x api.Tx) api.Tx {
	x.Data = roomy(x.Data, counted(40)...)
	x.Access = roomy(x.Access, reach(1, 2)...)
	for i := range x.Access {
		x.Access[i].Keys = roomy(x.Access[i].Keys, hashed(7), hashed(8))
	}
	return x
}

// wholly is all that x tells, with what lies in all spare room.
func wholly(x api.Tx) string {
	x.Data = x.Data[:cap(x.Data)]
	x.Access = slices.Clone(x.Access[:cap(x.Access)])
	out := ""
	for i, a := range x.Access {
		out += fmt.Sprint(len(a.Keys), " ")
		x.Access[i].Keys = a.Keys[:cap(a.Keys)]
	}
	return out + text(x)
}

// spoil changes all of x's lists, their spare room too.
func spoil(x api.Tx) {
	for _, a := range x.Access[:cap(x.Access)] {
		for i := range a.Keys[:cap(a.Keys)] {
			a.Keys[:cap(a.Keys)][i][3] ^= 0x5a
		}
	}
	for i := range x.Access[:cap(x.Access)] {
		x.Access[:cap(x.Access)][i] = api.Access{Address: who(99), Keys: make([]api.Hash, 9)}
	}
	spoilBytes(x.Data)
}

func spoilBytes(b []byte) {
	for i := range b[:cap(b)] {
		b[:cap(b)][i] ^= 0x5a
	}
}

// room is where a list lies, its spare room included.
type room struct {
	from, to uintptr
	list     any // which is held, so that no other one comes to lie there
}

func roomOf[T any](l []T) room {
	var one T
	from := uintptr(unsafe.Pointer(unsafe.SliceData(l)))
	return room{from, from + uintptr(cap(l))*unsafe.Sizeof(one), l}
}

// rooms are those of all lists of a transaction.
func rooms(x api.Tx) []room {
	out := []room{roomOf(x.Data), roomOf(x.Access)}
	for _, a := range x.Access[:cap(x.Access)] {
		out = append(out, roomOf(a.Keys))
	}
	return out
}

// apart looks whether no two of some lists share memory.
func apart(t *testing.T, what string, all []room) {
	t.Helper()
	all = slices.DeleteFunc(all, func(r room) bool { return r.from == r.to })
	slices.SortFunc(all, func(a, b room) int {
		if a.from < b.from {
			return -1
		}
		return 1
	})
	for i := range all {
		if i > 0 && all[i].from < all[i-1].to {
			t.Fatalf("two lists of %s, or of what was handed in, share memory", what)
		}
	}
}

// What is handed in stays as it is, its spare room included.
func TestP15_1ChangesNothing(t *testing.T) {
	for _, from := range samples(71, 150) {
		x := roomyTx(from)
		was := wholly(x)
		tx.Check(x)
		b, _ := tx.Encode(x)
		tx.Hash(x)
		tx.Signed(x)
		tx.Sign(x, word.Of(7))
		tx.Sender(x)
		tx.Price(x, word.Of(7))
		tx.Intrinsic(x)
		same(t, "what was handed in", wholly(x), was, from)
		b = roomy(b, counted(40)...)
		kept := bytes.Clone(b[:cap(b)])
		tx.Decode(b)
		tx.Decode(b[:len(b)-1])
		tx.Decode(b[:len(b)+1])
		equal(t, "what was handed in", b[:cap(b)], kept, from)
	}
}

// All that is answered is in memory of its own, spare room too.
func TestP15_2NewMemory(t *testing.T) {
	for _, from := range append(samples(72, 150), changed(capped(), func(x *api.Tx) { x.Access = reach(5, 1, 0, 7, 3, 2, 9) })) {
		x := roomyTx(from)
		first, again := bytesOf(t, x), bytesOf(t, x)
		handed := roomy(first, counted(40)...)
		all := append(rooms(x), roomOf(first), roomOf(again), roomOf(handed))
		for range 2 {
			all = append(all, rooms(decoded(t, handed))...)
			all = append(all, rooms(made(t, x, word.Of(7)))...)
		}
		apart(t, "what is answered", all)
	}
}

// The same list may be handed in in several places: it is not in the answer.
func TestP15_3NewMemory(t *testing.T) {
	x, keys := capped(), reach(3)[0].Keys
	x.Access = []api.Access{{Keys: keys}, {Keys: keys[:2]}, {Keys: keys[1:]}, {Keys: keys[:0]}}
	y := made(t, x, word.Of(7))
	apart(t, "what Sign answers", append(rooms(y), roomOf(keys)))
	alike(t, "Sign", y, changed(x, func(x *api.Tx) { x.Sig = y.Sig }))
}

// An answer stays as it is when what was handed in is changed, and when another answer is.
func TestP15_3KeepsNothing(t *testing.T) {
	for _, from := range samples(73, 100) {
		x := roomyTx(from)
		b := bytesOf(t, x)
		want := made(t, from, word.Of(7))
		y := made(t, x, word.Of(7))
		spoil(x)
		alike(t, "Sign", y, want, from)
		equal(t, "Encode", b, []byte(toldBytes(from)), from)
		handed := roomy(b, counted(40)...)
		z, other := decoded(t, handed), decoded(t, handed)
		spoilBytes(handed)
		spoil(other)
		alike(t, "Decode", z, from, from)
	}
}

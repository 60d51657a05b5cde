package header_test

import (
	"bytes"
	"fmt"
	"slices"
	"testing"
	"unsafe"

	"bailiwick/api"
	"bailiwick/header"
)

// roomy is l in a list with spare room that holds something.
func roomy[T any](l []T, spare ...T) []T {
	return append(slices.Clone(l), spare...)[:len(l)]
}

// roomyBlock, roomyLogs are x in new memory, all lists with spare room that holds something.
func roomyBlock(x api.Block) api.Block {
	x.Header.Extra = roomy(x.Header.Extra, counted(40)...)
	x.Txs = roomy(x.Txs, kinds()...)
	for i, t := range x.Txs {
		t.Data = roomy(t.Data, counted(40)...)
		t.Access = roomy(t.Access, listed().Access...)
		for j := range t.Access {
			t.Access[j].Keys = roomy(t.Access[j].Keys, hashed(7), hashed(8))
		}
		x.Txs[i] = t
	}
	return x
}

func roomyLogs(l []api.Log) []api.Log {
	l = roomy(l, toldLog(2, 3), toldLog(1, 4))
	for i := range l {
		l[i].Data = roomy(l[i].Data, counted(40)...)
		l[i].Topics = roomy(l[i].Topics, hashed(7), hashed(8))
	}
	return l
}

// wholly is all that a block tells, with what lies in all spare room; logsWholly that logs tell.
func wholly(x api.Block) string {
	out := fmt.Sprint(len(x.Header.Extra), len(x.Txs), text(x), text(x.Header.Extra[:cap(x.Header.Extra)]))
	for _, t := range x.Txs[:cap(x.Txs)] {
		out += fmt.Sprint(text(t), len(t.Data), text(t.Data[:cap(t.Data)]))
		for _, a := range t.Access[:cap(t.Access)] {
			out += fmt.Sprint(a.Address, len(a.Keys), a.Keys[:cap(a.Keys)])
		}
	}
	return out
}

func logsWholly(l []api.Log) string {
	out := fmt.Sprint(len(l))
	for _, x := range l[:cap(l)] {
		out += fmt.Sprint(x.Address, len(x.Topics), x.Topics[:cap(x.Topics)], len(x.Data), x.Data[:cap(x.Data)])
	}
	return out
}

// spoil changes all of x's lists, their spare room too.
func spoil(x api.Block) {
	spoilBytes(x.Header.Extra)
	for _, t := range x.Txs[:cap(x.Txs)] {
		spoilBytes(t.Data)
		for _, a := range t.Access[:cap(t.Access)] {
			for i := range a.Keys[:cap(a.Keys)] {
				a.Keys[:cap(a.Keys)][i][3] ^= 0x5a
			}
		}
		for i := range t.Access[:cap(t.Access)] {
			t.Access[:cap(t.Access)][i] = api.Access{Address: who(99), Keys: make([]api.Hash, 9)}
		}
	}
	for i := range x.Txs[:cap(x.Txs)] {
		x.Txs[:cap(x.Txs)][i] = capped()
	}
}

func spoilBytes(b []byte) {
	for i := range b[:cap(b)] {
		b[:cap(b)][i] ^= 0x5a
	}
}

// room is where a list lies, its spare room included.
type room struct {
	from, to uintptr
	list     any // which is held, so that no other one comes to lie there
}

func roomOf[T any](l []T) room {
	var one T
	from := uintptr(unsafe.Pointer(unsafe.SliceData(l)))
	return room{from, from + uintptr(cap(l))*unsafe.Sizeof(one), l}
}

// rooms are those of all lists of a block.
func rooms(x api.Block) []room {
	out := []room{roomOf(x.Header.Extra), roomOf(x.Txs)}
	for _, t := range x.Txs[:cap(x.Txs)] {
		out = append(out, roomOf(t.Data), roomOf(t.Access))
		for _, a := range t.Access[:cap(t.Access)] {
			out = append(out, roomOf(a.Keys))
		}
	}
	return out
}

// apart looks whether no two of some lists share memory.
func apart(t *testing.T, what string, all []room) {
	t.Helper()
	all = slices.DeleteFunc(all, func(r room) bool { return r.from == r.to })
	slices.SortFunc(all, func(a, b room) int {
		if a.from < b.from {
			return -1
		}
		return 1
	})
	for i := range all {
		if i > 0 && all[i].from < all[i-1].to {
			t.Fatalf("two lists of %s, or of what was handed in, share memory", what)
		}
	}
}

// What is handed in stays as it is, its spare room included.
func TestP16_1ChangesNothing(t *testing.T) {
	for _, from := range append(blocks(), drawnList(71, 150, drawnBlock)...) {
		x := roomyBlock(from)
		was := wholly(x)
		header.Check(x.Header)
		b, _ := header.Encode(x.Header)
		header.Hash(x.Header)
		header.Txs(x.Txs)
		c, _ := header.Whole(x)
		same(t, "what was handed in", wholly(x), was, from)
		for _, l := range [][]byte{roomy(b, counted(40)...), roomy(c, counted(40)...)} {
			kept := bytes.Clone(l[:cap(l)])
			for _, part := range [][]byte{l, l[:len(l)-1], l[:len(l)+1], l[1:]} {
				header.Decode(part)
				header.Read(part)
				header.Has(x.Header.Bloom, part)
			}
			equal(t, "what was handed in", l[:cap(l)], kept, from)
		}
	}
}

func TestP16_3ChangesNothing(t *testing.T) {
	d := draw(72)
	for range 200 {
		l := []api.Receipt{drawnReceipt(d), drawnReceipt(d)}
		was := ""
		for i := range l {
			l[i].Logs = roomyLogs(l[i].Logs)
			was += logsWholly(l[i].Logs)
		}
		l = roomy(l, drawnReceipt(d))
		spare := text(l[:3][2])
		header.Bloom(l[0].Logs)
		header.Receipt(l[0])
		header.Receipts(l)
		same(t, "what was handed in", logsWholly(l[0].Logs)+logsWholly(l[1].Logs), was)
		same(t, "what lies behind it", text(l[:3][2]), spare)
	}
}

// All that is answered is in memory of its own, spare room too.
func TestP16_4NewMemory(t *testing.T) {
	for _, from := range append(blocks(), drawnList(73, 150, drawnBlock)...) {
		x := roomyBlock(from)
		all := rooms(x)
		for range 2 {
			head, whole := bytesOf(t, x.Header), wholeOf(t, x)
			first, second := roomy(head, counted(40)...), roomy(whole, counted(40)...)
			all = append(all, roomOf(head), roomOf(whole), roomOf(first), roomOf(second))
			for range 2 {
				all = append(all, roomOf(decoded(t, first).Extra))
				all = append(all, rooms(readOf(t, second))...)
			}
		}
		apart(t, "what is answered", all)
	}
}

// Of bytes that stand in what is handed in several times each is there by itself.
func TestP16_4NewMemoryTwice(t *testing.T) {
	x := capped()
	x.Access[1] = x.Access[0]
	all := api.Block{Header: full(), Txs: slices.Repeat([]api.Tx{x, plain()}, 5)}
	all.Header.Extra = x.Data
	alike(t, "Read", readOf(t, wholeOf(t, all)), all)
	apart(t, "what Read answers", rooms(readOf(t, wholeOf(t, all))))
}

func TestP16_3NewMemory(t *testing.T) {
	for _, r := range drawnList(74, 150, drawnReceipt) {
		r.Logs = roomyLogs(r.Logs)
		all := []room{roomOf(r.Logs), roomOf(receiptOf(t, r)), roomOf(receiptOf(t, r))}
		for _, l := range r.Logs {
			all = append(all, roomOf(l.Topics), roomOf(l.Data))
		}
		apart(t, "what Receipt answers", all)
	}
}

// An answer stays as it is when what was handed in is changed, and when another answer is.
func TestP16_4KeepsNothing(t *testing.T) {
	for _, from := range append(blocks(), drawnList(75, 100, drawnBlock)...) {
		x := roomyBlock(from)
		head, whole := bytesOf(t, x.Header), wholeOf(t, x)
		spoil(x)
		want, _ := toldWhole(from)
		equal(t, "Encode", head, []byte(toldBytes(from.Header)), from)
		equal(t, "Whole", whole, []byte(want), from)
		first, second := roomy(head, counted(40)...), roomy(whole, counted(40)...)
		h, other := decoded(t, first), decoded(t, first)
		y, z := readOf(t, second), readOf(t, second)
		spoilBytes(first)
		spoilBytes(second)
		spoilBytes(other.Extra)
		spoil(z)
		alike(t, "Decode", h, from.Header, from)
		alike(t, "Read", y, from, from)
	}
}

// Lists that are nil are as those that are empty.
func TestP16_4NilAndEmpty(t *testing.T) {
	empty := api.Block{Header: api.Header{Extra: []byte{}}, Txs: []api.Tx{{Data: []byte{}, Access: []api.Access{}}, {Type: 1, Chain: 1, Access: []api.Access{{Keys: []api.Hash{}}}}}}
	none := api.Block{Txs: []api.Tx{{}, {Type: 1, Chain: 1, Access: []api.Access{{}}}}}
	equal(t, "Whole", wholeOf(t, empty), wholeOf(t, none))
	equal(t, "Encode", bytesOf(t, empty.Header), bytesOf(t, none.Header))
	equal(t, "Receipt", receiptOf(t, api.Receipt{Logs: []api.Log{}}), receiptOf(t, api.Receipt{}))
	equal(t, "Receipt", receiptOf(t, api.Receipt{Logs: []api.Log{{Topics: []api.Hash{}, Data: []byte{}}}}), receiptOf(t, api.Receipt{Logs: []api.Log{{}}}))
}

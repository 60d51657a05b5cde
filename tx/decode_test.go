package tx_test

import (
	"bytes"
	"math/rand/v2"
	"slices"
	"testing"

	"bailiwick/api"
	"bailiwick/rlp"
	"bailiwick/tx"
	"bailiwick/word"
)

// asTold holds Decode of any bytes to what is told anew, and tells whether these are a transaction's.
func asTold(t *testing.T, b []byte, of ...any) bool {
	t.Helper()
	want, e := toldDecode(b)
	if e != api.OK {
		refused(t, b, e, of...)
		return false
	}
	alike(t, "Decode", decoded(t, b), want, append(of, b)...)
	return true
}

// parts are the items of x's list, and built the bytes of such ones behind what stands ahead.
func parts(x api.Tx) []api.Item {
	item, _ := rlp.Only([]byte(toldBytes(x)[len(toldAhead(x)):]))
	return item.L
}

func built(ahead string, l []api.Item) []byte {
	b, e := rlp.Encode(api.Item{List: true, L: l})
	if e != api.OK {
		panic(e)
	}
	return append([]byte(ahead), b...)
}

// places are where a transaction's fields stand among its items; -1 of those that it has not.
type places struct{ chain, nonce, tip, cap, gas, to, value, data, access, v, r, s int }

func placesOf(x api.Tx) places {
	return []places{
		{-1, 0, -1, 1, 2, 3, 4, 5, -1, 6, 7, 8},
		{0, 1, -1, 2, 3, 4, 5, 6, 7, 8, 9, 10},
		{0, 1, 2, 3, 4, 5, 6, 7, 8, 9, 10, 11},
	}[x.Type]
}

// with are x's bytes with another item in a place.
func with(x api.Tx, at int, item api.Item) []byte {
	l := parts(x)
	l[at] = item
	return built(toldAhead(x), l)
}

func TestP15_2Decode(t *testing.T) {
	for _, x := range samples(31, 3000) {
		b := []byte(toldBytes(x))
		alike(t, "Decode", decoded(t, b), x, b)
		same(t, "whether it is one, told anew,", asTold(t, b), true, b)
	}
}

func TestP15_2DecodeNothing(t *testing.T) {
	refused(t, nil, api.ErrForm)
	refused(t, []byte{}, api.ErrForm)
	for a := range 256 {
		refused(t, []byte{byte(a)}, api.ErrForm)
		for b := range 256 {
			refused(t, []byte{byte(a), byte(b)}, api.ErrForm)
			refused(t, []byte{byte(a % 3), byte(a), byte(b)}, api.ErrForm)
			refused(t, []byte{0xc2, byte(a), byte(b)}, api.ErrForm)
		}
	}
}

// An item that is no list, however much there is in it.
func TestP15_2DecodeNoList(t *testing.T) {
	for _, x := range kinds() {
		inner := []byte(toldBytes(x)[len(toldAhead(x)):])
		for ahead := range 3 {
			refused(t, append([]byte{byte(ahead)}, toldText(string(inner))...), api.ErrForm)
		}
		refused(t, []byte(toldText(toldBytes(x))), api.ErrForm)
		refused(t, []byte(toldText(string(inner))), api.ErrForm)
		refused(t, []byte(toldList(string(inner))), api.ErrForm)
		refused(t, []byte(toldAhead(x)+toldList(string(inner))), api.ErrForm)
	}
}

func TestP15_2DecodeTorn(t *testing.T) {
	for _, x := range kinds() {
		b := []byte(toldBytes(x))
		for size := range b {
			refused(t, b[:size], api.ErrForm)
			refused(t, b[size+1:], api.ErrForm)
		}
		for more := range 256 {
			refused(t, append(slices.Clone(b), byte(more)), api.ErrForm)
		}
		refused(t, append(slices.Clone(b), b...), api.ErrForm)
	}
}

// Each first byte ahead of each list is refused, but for that of its type.
func TestP15_2DecodeTypes(t *testing.T) {
	for _, x := range kinds() {
		list := toldBytes(x)[len(toldAhead(x)):]
		for ahead := range 256 {
			b := append([]byte{byte(ahead)}, list...)
			if string(b) == toldBytes(x) {
				alike(t, "Decode", decoded(t, b), x)
				continue
			}
			refused(t, b, api.ErrForm, ahead)
			refused(t, append([]byte{byte(ahead)}, b...), api.ErrForm, ahead)
		}
		if x.Type > 0 {
			refused(t, []byte(list), api.ErrForm)
		}
	}
}

// All bytes, each changed in each of its bits, or made one at which heads change.
func TestP15_2DecodeChanged(t *testing.T) {
	found := 0
	for _, x := range kinds() {
		b := []byte(toldBytes(x))
		for at := range b {
			was := b[at]
			for _, now := range []byte{was ^ 1, was ^ 2, was ^ 4, was ^ 8, was ^ 16, was ^ 32, was ^ 64, was ^ 128, 0, 1, 2, was + 1, was - 1, 0x7f, 0x80, 0x81, 0xb7, 0xb8, 0xc0, 0xc1, 0xf7, 0xf8, 0xff} {
				b[at] = now
				if asTold(t, b, at) {
					found++
				}
			}
			b[at] = was
		}
	}
	if found < 1000 {
		t.Fatalf("%d of the changed bytes are a transaction's", found)
	}
}

func TestP15_2DecodeDrawn(t *testing.T) {
	d := draw(32)
	found := 0
	for range 40_000 {
		b := []byte(toldBytes(drawn(d)))
		for range d.IntN(4) {
			at := d.IntN(len(b))
			switch d.IntN(4) {
			case 0:
				b[at] = byte(d.Uint32())
			case 1:
				b[at] ^= 1 << d.IntN(8)
			case 2:
				b = slices.Insert(b, at, byte(d.Uint32()))
			case 3:
				b = slices.Delete(b, at, at+1)
			}
		}
		if len(b) > 0 && asTold(t, b) {
			found++
		}
	}
	if found < 12_000 || found > 35_000 {
		t.Fatalf("%d of the changed bytes are a transaction's", found)
	}
}

// others are items to stand in the place of another one.
func others(d *rand.Rand) []api.Item {
	var out []api.Item
	for _, b := range [][]byte{nil, {0}, {1}, {2}, {127}, {128}, {0, 1}, {1, 0}, {0, 0}, {27}, {28}, {29}, {35}, {36}, {37}, {38}, {255}} {
		out = append(out, api.Item{B: b}, api.Item{List: true, L: []api.Item{{B: b}}})
	}
	for _, size := range []int{3, 7, 8, 9, 19, 20, 21, 31, 32, 33, 40, 60} {
		nought := append([]byte{0}, counted(size-1)...)
		out = append(out, api.Item{B: counted(size)}, api.Item{B: nought}, api.Item{B: bytes.Repeat([]byte{255}, size)}, api.Item{List: true, L: []api.Item{{B: counted(size)}, {B: nought}}})
	}
	address, key := api.Item{B: counted(20)}, api.Item{B: counted(32)}
	list := func(l ...api.Item) api.Item { return api.Item{List: true, L: l} }
	return append(out, list(), list(list()), list(list(address, list())), list(list(address, list(key))), list(list(address, list(key, key)), list(address, list())),
		list(list(address)), list(list(address, key)), list(list(list(), address)), list(list(address, list(address))), list(list(key, list(key))), list(list(address, list(), list())),
		list(list(address, list(), address)), list(list(address, list(list()))), list(list(address, list(list(key)))), list(list(list(address), list(key))), list(address, list(key)), list(address), list(key),
		list(list(address, list(key)), address), list(list(address, list(key)), list()), list(list(), list(address, list(key))), list(list(address, list(key, api.Item{B: counted(31)}))), list(list(address, list(key, api.Item{}))),
		list(list(api.Item{B: counted(19)}, list(key)), list(address, list(key))), api.Item{B: drawnBytes(d, 70)})
}

// Each item, in whatever depth, gives its place to each other one.
func TestP15_2DecodeItems(t *testing.T) {
	d := draw(33)
	found := 0
	for _, x := range kinds() {
		root := api.Item{List: true, L: parts(x)}
		for _, at := range below(&root) {
			was := *at
			for _, y := range others(d) {
				*at = y
				if root.List && asTold(t, built(toldAhead(x), root.L), y) {
					found++
				}
			}
			*at = was
		}
	}
	if found < 1000 {
		t.Fatalf("%d of the lists are a transaction's", found)
	}
}

// below are all items in x.
func below(x *api.Item) []*api.Item {
	var out []*api.Item
	for i := range x.L {
		out = append(append(out, &x.L[i]), below(&x.L[i])...)
	}
	return out
}

// An item too few, too many, or two that changed places, in whatever depth.
func TestP15_2DecodeOrder(t *testing.T) {
	for _, x := range kinds() {
		root := api.Item{List: true, L: parts(x)}
		for _, list := range append(below(&root), &root) {
			was := list.L
			if !list.List {
				continue
			}
			for i := range was {
				list.L = slices.Delete(slices.Clone(was), i, i+1)
				asTold(t, built(toldAhead(x), root.L), i)
				for j := range was {
					list.L = slices.Clone(was)
					list.L[i], list.L[j] = list.L[j], list.L[i]
					asTold(t, built(toldAhead(x), root.L), i, j)
				}
			}
			for i := range len(was) + 1 {
				for _, y := range []api.Item{{}, {B: []byte{1}}, {B: counted(20)}, {B: counted(32)}, {List: true}} {
					list.L = slices.Insert(slices.Clone(was), i, y)
					asTold(t, built(toldAhead(x), root.L), i)
				}
			}
			list.L = was
		}
		for i := range root.L {
			refused(t, built(toldAhead(x), root.L[:i]), api.ErrForm, i)
			refused(t, built(toldAhead(x), root.L[i+1:]), api.ErrForm, i)
		}
		for _, y := range []api.Item{{}, {B: []byte{1}}, {List: true}} {
			refused(t, built(toldAhead(x), append(slices.Clone(root.L), y)), api.ErrForm)
		}
	}
}

// Numbers in forms, or so great, that no transaction has them.
func TestP15_2DecodeNumbers(t *testing.T) {
	for _, x := range kinds() {
		p := placesOf(x)
		for _, at := range []int{p.chain, p.nonce, p.tip, p.cap, p.gas, p.value, p.v, p.r, p.s} {
			if at < 0 {
				continue
			}
			for _, b := range [][]byte{{0}, {0, 1}, {0, 27}, {0, 37}, append([]byte{0}, counted(7)...), append([]byte{0}, counted(31)...), counted(33), make([]byte, 32)} {
				refused(t, with(x, at, api.Item{B: b}), api.ErrForm, at)
			}
			refused(t, with(x, at, api.Item{List: true}), api.ErrForm, at)
			refused(t, with(x, at, api.Item{List: true, L: []api.Item{{B: []byte{1}}}}), api.ErrForm, at)
		}
		for _, at := range []int{p.chain, p.nonce, p.gas, p.v} {
			if at < 0 {
				continue
			}
			for k := uint64(64); k < 256; k += 3 {
				refused(t, with(x, at, rlp.Number(word.Add(word.Shl(word.Of(k), word.Of(1)), word.Of(1)))), api.ErrForm, at)
			}
			refused(t, with(x, at, rlp.Number(most())), api.ErrForm, at)
		}
		for _, n := range ends() {
			alike(t, "Decode", decoded(t, with(x, p.nonce, small(n))), changed(x, func(x *api.Tx) { x.Nonce = n }))
			alike(t, "Decode", decoded(t, with(x, p.gas, small(n))), changed(x, func(x *api.Tx) { x.Gas = n }))
		}
		for _, a := range words() {
			alike(t, "Decode", decoded(t, with(x, p.value, rlp.Number(a))), changed(x, func(x *api.Tx) { x.Value = a }))
			alike(t, "Decode", decoded(t, with(x, p.r, rlp.Number(a))), changed(x, func(x *api.Tx) { x.Sig.R = a }))
			alike(t, "Decode", decoded(t, with(x, p.s, rlp.Number(a))), changed(x, func(x *api.Tx) { x.Sig.S = a }))
			alike(t, "Decode", decoded(t, with(x, p.cap, rlp.Number(a))), changed(x, func(x *api.Tx) {
				x.Cap = a
				if x.Type < 2 {
					x.Tip = a
				}
			}))
			if x.Type == 2 {
				alike(t, "Decode", decoded(t, with(x, p.tip, rlp.Number(a))), changed(x, func(x *api.Tx) { x.Tip = a }))
			}
		}
	}
}

func small(n uint64) api.Item {
	return rlp.Number(word.Of(n))
}

// Of a plain transaction v tells V, and the chain, if there is one.
func TestP15_2DecodeV(t *testing.T) {
	for _, x := range []api.Tx{plain(), creating(plain()), {}} {
		at := placesOf(x).v
		for v := range uint64(400) {
			want := api.Tx{}
			switch {
			case v == 27 || v == 28:
				want = changed(x, func(x *api.Tx) { x.Sig.V = int(v - 27) })
			case v >= 37:
				want = changed(x, func(x *api.Tx) { x.Chain, x.Sig.V = (v-35)/2, int(1-v%2) })
			default:
				refused(t, with(x, at, small(v)), api.ErrForm, v)
				continue
			}
			alike(t, "Decode", decoded(t, with(x, at, small(v))), want, v)
		}
		for _, chain := range chains() {
			for v := range uint64(2) {
				want := changed(x, func(x *api.Tx) { x.Chain, x.Sig.V = chain, int(v) })
				alike(t, "Decode", decoded(t, with(x, at, small(35+2*chain+v))), want, chain)
			}
		}
		for _, v := range []uint64{2<<32 + 37, 2<<32 + 38, 3 << 32, 1 << 34, 1 << 63, 1<<63 + 34, 1<<63 + 36, 1<<63 + 37, 1<<64 - 1, 1<<64 - 2} {
			refused(t, with(x, at, small(v)), api.ErrForm, v)
		}
		for v := range uint64(60) {
			refused(t, with(x, at, rlp.Number(word.Add(word.Of(v), api.Word{0, 1}))), api.ErrForm, v)
		}
	}
	for _, x := range []api.Tx{listed(), capped(), creating(capped())} {
		at := placesOf(x).v
		for v := range uint64(300) {
			if v > 1 {
				refused(t, with(x, at, small(v)), api.ErrForm, v)
				continue
			}
			alike(t, "Decode", decoded(t, with(x, at, small(v))), changed(x, func(x *api.Tx) { x.Sig.V = int(v) }), v)
		}
		for _, n := range []uint64{1 << 8, 1 << 16, 1 << 31, 1 << 32, 1 << 33, 1 << 63} {
			for v := range uint64(2) {
				refused(t, with(x, at, small(n+v)), api.ErrForm, n)
				refused(t, with(x, at, rlp.Number(api.Word{v, n})), api.ErrForm, n)
			}
			refused(t, with(x, at, small(-n)), api.ErrForm, n)
			refused(t, with(x, at, small(-n+1)), api.ErrForm, n)
		}
		refused(t, with(x, at, small(1<<64-1)), api.ErrForm)
	}
}

func TestP15_2DecodeChain(t *testing.T) {
	for _, x := range []api.Tx{listed(), capped(), creating(listed())} {
		for _, n := range chains() {
			alike(t, "Decode", decoded(t, with(x, 0, small(n))), changed(x, func(x *api.Tx) { x.Chain = n }))
		}
		for _, n := range []uint64{0, 1<<32 + 1, 1<<32 + 9, 1 << 33, 1 << 63, 1<<64 - 1} {
			refused(t, with(x, 0, small(n)), api.ErrForm, n)
		}
	}
}

func TestP15_2DecodeTo(t *testing.T) {
	for _, x := range kinds() {
		at := placesOf(x).to
		for size := range 70 {
			item := api.Item{B: counted(size)}
			switch size {
			case 0:
				alike(t, "Decode", decoded(t, with(x, at, item)), creating(x))
			case 20:
				alike(t, "Decode", decoded(t, with(x, at, item)), changed(x, func(x *api.Tx) { x.Create, x.To = false, api.Address(item.B) }))
			default:
				refused(t, with(x, at, item), api.ErrForm, size)
			}
			refused(t, with(x, at, api.Item{List: true, L: []api.Item{item}}), api.ErrForm, size)
		}
		refused(t, with(x, at, api.Item{List: true}), api.ErrForm)
		alike(t, "Decode", decoded(t, with(x, at, api.Item{B: make([]byte, 20)})), changed(x, func(x *api.Tx) { x.Create, x.To = false, api.Address{} }))
	}
}

// What is only too long somewhere: ErrLong; what is otherwise no transaction, too: ErrForm.
func TestP15_2DecodeLong(t *testing.T) {
	for _, x := range kinds() {
		x.Data = make([]byte, 1<<17)
		alike(t, "Decode", decoded(t, []byte(toldBytes(x))), x)
		for _, size := range []int{1<<17 + 1, 1 << 19, 1<<20 - 3000} {
			x.Data = make([]byte, size)
			refused(t, []byte(toldBytes(x)), api.ErrLong, size)
		}
		x.Data = make([]byte, 1<<17+1)
		if x.Type > 0 {
			x.Access = long()[0]
			refused(t, []byte(toldBytes(x)), api.ErrLong)
			x.Data = nil
		}
		refusedLong(t, x)
	}
	for _, x := range []api.Tx{listed(), creating(capped())} {
		for i, l := range long() {
			x.Access = l
			refused(t, []byte(toldBytes(x)), api.ErrLong, i)
			refusedLong(t, x)
			last := &l[len(l)-1]
			if len(last.Keys) > 0 {
				last.Keys = last.Keys[1:]
				alike(t, "Decode", decoded(t, []byte(toldBytes(x))), x, i)
			}
		}
		x.Access = reach(30000) // more take too many bytes, as keys; more addresses are too many items
		refused(t, []byte(toldBytes(x)), api.ErrLong)
		x.Access = reach(make([]int, 21000)...)
		refused(t, []byte(toldBytes(x)), api.ErrLong)
	}
}

// refusedLong holds Decode to ErrLong of x, which is too long, and to ErrForm of x with each other fault, too.
func refusedLong(t *testing.T, x api.Tx) {
	t.Helper()
	b := []byte(toldBytes(x))
	refused(t, b, api.ErrLong)
	p := placesOf(x)
	for _, at := range []int{p.chain, p.nonce, p.tip, p.cap, p.gas, p.value, p.v, p.r, p.s} {
		if at >= 0 {
			refused(t, with(x, at, api.Item{B: []byte{0}}), api.ErrForm, at)
		}
	}
	for _, at := range []int{p.nonce, p.gas, p.v} {
		refused(t, with(x, at, rlp.Number(api.Word{27, 1})), api.ErrForm, at)
	}
	refused(t, with(x, p.to, api.Item{B: counted(19)}), api.ErrForm)
	refused(t, with(x, p.v, small(29)), api.ErrForm)
	refused(t, with(x, p.v, small(2)), api.ErrForm)
	refused(t, with(x, p.v, small(2<<32+37)), api.ErrForm)
	refused(t, append(slices.Clone(b), 0), api.ErrForm)
	refused(t, b[:len(b)-1], api.ErrForm)
	refused(t, built(toldAhead(x), append(parts(x), api.Item{})), api.ErrForm)
	refused(t, built(toldAhead(x), parts(x)[:p.s]), api.ErrForm)
	if x.Type == 0 {
		return
	}
	refused(t, with(x, p.chain, api.Item{}), api.ErrForm)
	refused(t, with(x, p.chain, small(1<<32+1)), api.ErrForm)
	l := parts(x)
	last := l[p.access].L
	if len(last) == 0 {
		return
	}
	last[len(last)-1].L[1].L = append(last[len(last)-1].L[1].L, api.Item{B: counted(31)})
	refused(t, built(toldAhead(x), l), api.ErrForm)
	last[len(last)-1] = api.Item{List: true, L: []api.Item{{B: counted(21)}, {List: true}}}
	refused(t, built(toldAhead(x), l), api.ErrForm)
}

// What rlp refuses is no transaction, even if it does so as there is too much of it.
func TestP15_2DecodeTooLong(t *testing.T) {
	for _, x := range kinds() {
		room := 1<<20 - len(toldBytes(changed(x, func(x *api.Tx) { x.Data = counted(1 << 19) }))) + len(toldAhead(x)) + 1<<19
		x.Data = counted(room)
		b := []byte(toldBytes(x))
		same(t, "how many bytes of the longest", len(b)-len(toldAhead(x)), 1<<20, room)
		refused(t, b, api.ErrLong, room)
		x.Data = counted(room + 1)
		refused(t, []byte(toldBytes(x)), api.ErrForm, room)
		x.Data = counted(1 << 21)
		refused(t, []byte(toldBytes(x)), api.ErrForm)
	}
	for _, x := range []api.Tx{listed(), capped()} {
		x.Access = reach(make([]int, 22000)...)
		b := []byte(toldBytes(x))
		same(t, "whether these are too many bytes", len(b) > 1<<20, false)
		_, e := rlp.Only(b[1:])
		same(t, "Only's error", e, api.ErrLong)
		refused(t, b, api.ErrForm)
		x.Access = reach(33000)
		refused(t, []byte(toldBytes(x)), api.ErrForm)
		fields := toldFields(x)
		fields[len(fields)-1] = toldNested(64)
		refused(t, []byte(toldAhead(x)+toldList(append(fields, toldSmall(1), toldSmall(2), toldSmall(3))...)), api.ErrForm)
	}
	same(t, "Decode's error", lastError(tx.Decode(bytes.Repeat([]byte{0xc1}, 1<<20))), api.ErrForm)
}

// toldNested is the bytes of so many lists in one another.
func toldNested(n int) string {
	out := toldList()
	for range n - 1 {
		out = toldList(out)
	}
	return out
}

func lastError(_ api.Tx, e api.Errno) api.Errno {
	return e
}

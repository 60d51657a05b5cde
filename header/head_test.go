package header_test

import (
	"bytes"
	"math/rand/v2"
	"slices"
	"testing"

	"bailiwick/api"
	"bailiwick/header"
	"bailiwick/keccak"
	"bailiwick/rlp"
	"bailiwick/word"
)

func TestP16_1Check(t *testing.T) {
	for _, h := range samples(11, 300) {
		for _, size := range []int{0, 1, 97, 4095, 4096} {
			h.Extra = counted(size)
			same(t, "Check", header.Check(h), api.OK, size)
		}
		for _, size := range []int{4097, 4098, 8192, 1 << 16, 1<<16 + 1, 1 << 17} {
			h.Extra = make([]byte, size)
			same(t, "Check", header.Check(h), api.ErrLong, size)
		}
	}
	same(t, "Check", header.Check(api.Header{Extra: make([]byte, 1<<20+1)}), api.ErrLong)
	same(t, "Check", header.Check(api.Header{Extra: make([]byte, 1<<24)}), api.ErrLong)
	same(t, "Check", header.Check(api.Header{Extra: make([]byte, 4096, 5000)}), api.OK)
}

func TestP16_1Encode(t *testing.T) {
	for _, h := range samples(12, 1500) {
		equal(t, "Encode", bytesOf(t, h), []byte(toldBytes(h)), h)
	}
	for _, size := range []int{1, 2, 54, 55, 56, 57, 255, 256, 257, 4095, 4096} {
		for _, b := range [][]byte{make([]byte, size), counted(size), bytes.Repeat([]byte{128}, size)} {
			h := full()
			h.Extra = b
			equal(t, "Encode", bytesOf(t, h), []byte(toldBytes(h)), size)
		}
	}
}

// Each field stands in a place of its own.
func TestP16_1EncodeFields(t *testing.T) {
	for _, h := range heads() {
		fields := toldFields(h)
		for _, n := range ends() {
			for i, change := range []func(h *api.Header){
				func(h *api.Header) { h.Difficulty = n },
				func(h *api.Header) { h.Number = n },
				func(h *api.Header) { h.GasLimit = n },
				func(h *api.Header) { h.GasUsed = n },
				func(h *api.Header) { h.Time = n },
			} {
				l := slices.Clone(fields)
				l[7+i] = toldSmall(n)
				equal(t, "Encode", bytesOf(t, changed(h, change)), []byte(toldList(l...)), i, n)
			}
		}
		for _, a := range words() {
			l := slices.Clone(fields)
			l[15] = toldWord(a)
			equal(t, "Encode", bytesOf(t, changed(h, func(h *api.Header) { h.BaseFee = a })), []byte(toldList(l...)), a)
		}
		for at, change := range arrays() {
			l, b := slices.Clone(fields), counted(size(at))
			l[at] = toldText(string(b))
			equal(t, "Encode", bytesOf(t, changed(h, func(h *api.Header) { copy(change(h), b) })), []byte(toldList(l...)), at)
		}
	}
}

// arrays are a head's fields of so many bytes, by their places; size is how many these are.
func arrays() map[int]func(h *api.Header) []byte {
	return map[int]func(h *api.Header) []byte{
		0:  func(h *api.Header) []byte { return h.Parent[:] },
		1:  func(h *api.Header) []byte { return h.Uncles[:] },
		2:  func(h *api.Header) []byte { return h.Coinbase[:] },
		3:  func(h *api.Header) []byte { return h.State[:] },
		4:  func(h *api.Header) []byte { return h.Txs[:] },
		5:  func(h *api.Header) []byte { return h.Receipts[:] },
		6:  func(h *api.Header) []byte { return h.Bloom[:] },
		13: func(h *api.Header) []byte { return h.Mix[:] },
		14: func(h *api.Header) []byte { return h.Nonce[:] },
	}
}

func size(at int) int {
	return map[int]int{2: 20, 6: 256, 14: 8, 0: 32, 1: 32, 3: 32, 4: 32, 5: 32, 13: 32}[at]
}

// A head that can't be has no bytes, and no hash.
func TestP16_1TooLong(t *testing.T) {
	for _, h := range heads() {
		for _, size := range []int{4097, 1 << 16, 1 << 20, 1<<20 + 1, 1 << 21} {
			h.Extra = make([]byte, size)
			b, e := header.Encode(h)
			same(t, "Encode's error", e, api.ErrLong, size)
			same(t, "whether Encode tells none", b == nil, true, size)
			k, e := header.Hash(h)
			same(t, "Hash's error", e, api.ErrLong, size)
			same(t, "Hash", k, api.Hash{}, size)
		}
	}
}

func TestP16_1Hash(t *testing.T) {
	seen := map[api.Hash]bool{}
	for _, h := range samples(13, 1000) {
		k, e := header.Hash(h)
		same(t, "Hash's error", e, api.OK, h)
		same(t, "Hash", k, keccak.Sum([]byte(toldBytes(h))), h)
		same(t, "whether another head has that hash", seen[k], false, h)
		seen[k] = true
	}
}

func TestP16_1NoUncles(t *testing.T) {
	for range 3 {
		same(t, "NoUncles", hexHash(header.NoUncles()), "1dcc4de8dec75d7aab85b567b6ccd41ad312451b948a7413f0a142fd40d49347")
	}
}

func TestP16_1Decode(t *testing.T) {
	for _, h := range samples(14, 1500) {
		b := []byte(toldBytes(h))
		alike(t, "Decode", decoded(t, b), h, b)
		same(t, "whether it is one, told anew,", asTold(t, b), true, b)
	}
}

// asTold holds Decode of any bytes to what is told anew, and tells whether these are a head's.
func asTold(t *testing.T, b []byte, of ...any) bool {
	t.Helper()
	want, e := toldDecode(b)
	if e != api.OK {
		refused(t, b, e, of...)
		return false
	}
	alike(t, "Decode", decoded(t, b), want, append(of, b)...)
	return true
}

// parts are the items of h's list, and built the bytes of such ones.
func parts(h api.Header) []api.Item {
	x, _ := rlp.Only([]byte(toldBytes(h)))
	return x.L
}

func built(l ...api.Item) []byte {
	b, e := rlp.Encode(list(l...))
	if e != api.OK {
		panic(e)
	}
	return b
}

func list(l ...api.Item) api.Item {
	return api.Item{List: true, L: l}
}

func item(b ...byte) api.Item {
	return api.Item{B: b}
}

// with are h's bytes with another item in a place.
func with(h api.Header, at int, x api.Item) []byte {
	l := parts(h)
	l[at] = x
	return built(l...)
}

func TestP16_1DecodeNothing(t *testing.T) {
	refused(t, nil, api.ErrForm)
	refused(t, []byte{}, api.ErrForm)
	for a := range 256 {
		refused(t, []byte{byte(a)}, api.ErrForm)
		for b := a % 5; b < 256; b += 5 {
			refused(t, []byte{byte(a), byte(b)}, api.ErrForm)
			refused(t, []byte{0xc2, byte(a), byte(b)}, api.ErrForm)
		}
	}
}

// What is in another list, or in none.
func TestP16_1DecodeNoList(t *testing.T) {
	for _, h := range heads() {
		b := toldBytes(h)
		refused(t, []byte(toldText(b)), api.ErrForm)
		refused(t, []byte(toldList(b)), api.ErrForm)
		refused(t, []byte(toldList(toldFields(h)...)[1:]), api.ErrForm)
		refused(t, append([]byte{0}, b...), api.ErrForm)
		refused(t, append([]byte{2}, b...), api.ErrForm)
		refused(t, []byte(toldList(b, toldList(), toldList())), api.ErrForm)
	}
}

func TestP16_1DecodeTorn(t *testing.T) {
	for _, h := range heads() {
		b := []byte(toldBytes(h))
		for size := range b {
			refused(t, b[:size], api.ErrForm)
			refused(t, b[size+1:], api.ErrForm)
		}
		for more := range 256 {
			refused(t, append(slices.Clone(b), byte(more)), api.ErrForm)
		}
		refused(t, append(slices.Clone(b), b...), api.ErrForm)
	}
}

// All bytes, each changed in each of its bits, or made one at which heads of items change.
func TestP16_1DecodeChanged(t *testing.T) {
	found := 0
	for _, h := range []api.Header{{}, full(), heads()[7]} {
		b := []byte(toldBytes(h))
		for at := range b {
			was := b[at]
			for _, now := range []byte{was ^ 1, was ^ 2, was ^ 64, was ^ 128, 0, was + 1, was - 1, 0x7f, 0x80, 0x81, 0xb8, 0xc0, 0xf8, 0xff} {
				b[at] = now
				if asTold(t, b, at) {
					found++
				}
			}
			b[at] = was
		}
	}
	if found < 1000 {
		t.Fatalf("%d of the changed bytes are a head's", found)
	}
}

func TestP16_1DecodeDrawn(t *testing.T) {
	d := draw(15)
	found := 0
	for range 8_000 {
		b := spoiled(d, []byte(toldBytes(drawnHead(d))), d.IntN(4))
		if asTold(t, b) {
			found++
		}
	}
	if found < 1_600 || found > 7_200 {
		t.Fatalf("%d of the changed bytes are a head's", found)
	}
}

// spoiled is b, changed so many times.
func spoiled(d *rand.Rand, b []byte, times int) []byte {
	for range times {
		at := d.IntN(len(b))
		switch d.IntN(4) {
		case 0:
			b[at] = byte(d.Uint32())
		case 1:
			b[at] ^= 1 << d.IntN(8)
		case 2:
			b = slices.Insert(b, at, byte(d.Uint32()))
		case 3:
			b = slices.Delete(b, at, at+1)
		}
		if len(b) == 0 {
			return []byte{0}
		}
	}
	return b
}

// others are items to stand in the place of another one.
func others() []api.Item {
	out := []api.Item{list(), list(list()), list(list(), list())}
	for _, b := range [][]byte{nil, {0}, {1}, {127}, {128}, {255}, {0, 1}, {1, 0}, {0, 0}} {
		out = append(out, item(b...), list(item(b...)))
	}
	for _, size := range []int{2, 3, 7, 8, 9, 19, 20, 21, 31, 32, 33, 40, 55, 56, 255, 256, 257, 512, 4095, 4096, 4097, 5000} {
		nought := append([]byte{0}, counted(size-1)...)
		out = append(out, item(counted(size)...), item(nought...), item(bytes.Repeat([]byte{255}, size)...), list(item(counted(size)...)), list(item(counted(size)...), item(nought...)))
	}
	return out
}

// Each item gives its place to each other one.
func TestP16_1DecodeItems(t *testing.T) {
	found := 0
	for _, h := range heads() {
		for at := range 16 {
			for _, x := range others() {
				if asTold(t, with(h, at, x), at, x) {
					found++
				}
			}
		}
	}
	if found < 1000 {
		t.Fatalf("%d of the lists are a head's", found)
	}
}

// An item too few, too many, or two that changed places.
func TestP16_1DecodeOrder(t *testing.T) {
	for _, h := range heads() {
		all := parts(h)
		for i := range all {
			refused(t, built(slices.Delete(slices.Clone(all), i, i+1)...), api.ErrForm, i)
			refused(t, built(all[:i]...), api.ErrForm, i)
			refused(t, built(all[i+1:]...), api.ErrForm, i)
			for j := range i {
				l := slices.Clone(all)
				l[i], l[j] = l[j], l[i]
				asTold(t, built(l...), i, j)
			}
		}
		for i := range len(all) + 1 {
			for _, x := range []api.Item{{}, item(1), item(counted(8)...), item(counted(20)...), item(counted(32)...), item(counted(256)...), list(), list(item())} {
				refused(t, built(slices.Insert(slices.Clone(all), i, x)...), api.ErrForm, i)
			}
		}
	}
}

// Arrays must have as many bytes as they have.
func TestP16_1DecodeArrays(t *testing.T) {
	for _, h := range []api.Header{{}, full()} {
		for at, of := range arrays() {
			for n := range 300 {
				for _, b := range [][]byte{make([]byte, n), counted(n)} {
					if n != size(at) {
						refused(t, with(h, at, item(b...)), api.ErrForm, at, n)
						continue
					}
					alike(t, "Decode", decoded(t, with(h, at, item(b...))), changed(h, func(h *api.Header) { copy(of(h), b) }), at)
					refused(t, with(h, at, list(item(b...))), api.ErrForm, at, n)
				}
			}
			refused(t, with(h, at, list()), api.ErrForm, at)
		}
	}
}

// Numbers in forms, or so great, that no head has them.
func TestP16_1DecodeNumbers(t *testing.T) {
	for _, h := range heads() {
		for _, at := range []int{7, 8, 9, 10, 11, 15} {
			for _, b := range [][]byte{{0}, {0, 1}, {0, 0}, append([]byte{0}, counted(7)...), append([]byte{0}, counted(31)...), counted(33), counted(64), make([]byte, 32), make([]byte, 8)} {
				refused(t, with(h, at, item(b...)), api.ErrForm, at)
			}
			refused(t, with(h, at, list()), api.ErrForm, at)
			refused(t, with(h, at, list(item(1))), api.ErrForm, at)
		}
		for _, at := range []int{7, 8, 9, 10, 11} {
			for k := uint64(64); k < 256; k++ {
				one := word.Shl(word.Of(k), word.Of(1))
				refused(t, with(h, at, rlp.Number(one)), api.ErrForm, at, k)
				refused(t, with(h, at, rlp.Number(word.Add(one, word.Of(1)))), api.ErrForm, at, k)
			}
			refused(t, with(h, at, rlp.Number(most())), api.ErrForm, at)
		}
		for _, n := range ends() {
			x := rlp.Number(word.Of(n))
			alike(t, "Decode", decoded(t, with(h, 7, x)), changed(h, func(h *api.Header) { h.Difficulty = n }))
			alike(t, "Decode", decoded(t, with(h, 8, x)), changed(h, func(h *api.Header) { h.Number = n }))
			alike(t, "Decode", decoded(t, with(h, 9, x)), changed(h, func(h *api.Header) { h.GasLimit = n }))
			alike(t, "Decode", decoded(t, with(h, 10, x)), changed(h, func(h *api.Header) { h.GasUsed = n }))
			alike(t, "Decode", decoded(t, with(h, 11, x)), changed(h, func(h *api.Header) { h.Time = n }))
		}
		for _, a := range words() {
			alike(t, "Decode", decoded(t, with(h, 15, rlp.Number(a))), changed(h, func(h *api.Header) { h.BaseFee = a }))
		}
	}
}

// What has too long an extra alone: ErrLong; what is otherwise no head, too: ErrForm.
func TestP16_1DecodeLong(t *testing.T) {
	for _, h := range heads() {
		for _, size := range []int{4095, 4096} {
			h.Extra = counted(size)
			alike(t, "Decode", decoded(t, []byte(toldBytes(h))), h)
		}
		for _, size := range []int{4097, 4098, 1 << 13, 1<<16 - 1, 1 << 16, 1 << 17, 1 << 19} {
			h.Extra = make([]byte, size)
			refused(t, []byte(toldBytes(h)), api.ErrLong, size)
		}
		h.Extra = counted(4097)
		b := []byte(toldBytes(h))
		refused(t, append(slices.Clone(b), 0), api.ErrForm)
		refused(t, b[:len(b)-1], api.ErrForm)
		for at := range 16 {
			if at == 12 {
				continue
			}
			for _, x := range []api.Item{item(0), item(0, 1), item(counted(33)...), list(), item(counted(300)...)} {
				refused(t, with(h, at, x), api.ErrForm, at)
			}
			refused(t, built(slices.Delete(parts(h), at, at+1)...), api.ErrForm, at)
			refused(t, built(slices.Insert(parts(h), at, api.Item{})...), api.ErrForm, at)
		}
		refused(t, built(append(parts(h), api.Item{})...), api.ErrForm)
		refused(t, with(h, 12, list(item(counted(4097)...))), api.ErrForm)
		refused(t, with(h, 12, list(item(counted(97)...))), api.ErrForm)
		refused(t, with(h, 12, list()), api.ErrForm)
	}
}

// What rlp refuses is no head, even if it does so as there is too much of it.
func TestP16_1DecodeTooLong(t *testing.T) {
	for _, h := range heads() {
		h.Extra = counted(1 << 19)
		room := 1<<20 - len(toldBytes(h)) + 1<<19
		h.Extra = counted(room)
		b := []byte(toldBytes(h))
		same(t, "how many bytes of the longest", len(b), 1<<20, room)
		refused(t, b, api.ErrLong, room)
		h.Extra = counted(room + 1)
		refused(t, []byte(toldBytes(h)), api.ErrForm, room)
		h.Extra = counted(1 << 21)
		refused(t, []byte(toldBytes(h)), api.ErrForm)
	}
	refused(t, bytes.Repeat([]byte{0xc1}, 1<<20), api.ErrForm)
	refused(t, []byte(toldList(string(make([]byte, 1<<16)))), api.ErrForm)
}

package rlp_test

import (
	"math/rand/v2"
	"slices"
	"testing"

	"bailiwick/api"
	"bailiwick/rlp"
	"bailiwick/word"
)

func TestP12_2Text(t *testing.T) {
	for _, n := range append(edges(), 1<<20+1) {
		alike(t, "Text", rlp.Text(counted(n)), long(n), n)
	}
	for i := range 256 {
		alike(t, "Text", rlp.Text([]byte{byte(i)}), text(byte(i)), i)
	}
	alike(t, "Text", rlp.Text([]byte{0, 0, 1}), text(0, 0, 1))
	alike(t, "Text of none", rlp.Text(nil), api.Item{})
}

func TestP12_2List(t *testing.T) {
	d := draw(21)
	alike(t, "List of none", rlp.List(), api.Item{List: true})
	alike(t, "List of none", rlp.List([]api.Item{}...), list())
	all := samples(d, 500)
	for _, x := range all {
		alike(t, "List", rlp.List(x), list(x), brief(toldPrint(x)))
		alike(t, "List", rlp.List(x.L...), list(x.L...), brief(toldPrint(x)))
		y, z := pick(d, all), pick(d, all)
		alike(t, "List", rlp.List(x, y, z), list(x, y, z), brief(toldPrint(x)), brief(toldPrint(y)), brief(toldPrint(z)))
	}
}

// A list need not be one that can be.
func TestP12_2ListOfTooMuch(t *testing.T) {
	for _, x := range []api.Item{wide(100_000), nested(300, text(1)), long(1<<20 + 1), doubled(17, text(2))} {
		alike(t, "List", rlp.List(x, text(3)), list(x, text(3)), toldItems(x))
		tooMuch(t, rlp.List(x))
	}
}

// What plays no part in an item is not in an answer.
func TestP12_2ListWithoutJunk(t *testing.T) {
	for _, x := range samples(draw(22), 300) {
		alike(t, "List", rlp.List(junk(x)), list(x), brief(toldPrint(x)))
	}
}

// numbers are words at the ends of their bytes, and some that are drawn, of each length.
func numbers() []api.Word {
	d := draw(23)
	out := []api.Word{{}, word.Of(1024), word.Not(api.Word{})}
	for k := range uint64(256) {
		a := word.Shl(word.Of(k), word.Of(1))
		out = append(out, a, word.Sub(a, word.Of(1)), word.Add(a, word.Of(1)))
		drawn := api.Word{d.Uint64(), d.Uint64(), d.Uint64(), d.Uint64()}
		out = append(out, word.Shr(word.Of(k), drawn))
	}
	return out
}

// toldNumber is a's bytes, without the noughts ahead.
func toldNumber(a api.Word) []byte {
	b := word.Bytes(a)
	out := b[:]
	for len(out) > 0 && out[0] == 0 {
		out = out[1:]
	}
	return out
}

func TestP12_2Number(t *testing.T) {
	for _, a := range numbers() {
		alike(t, "Number", rlp.Number(a), text(toldNumber(a)...), word.Decimal(a))
	}
	alike(t, "Number of 0", rlp.Number(api.Word{}), text())
	alike(t, "Number of 1", rlp.Number(word.Of(1)), text(1))
	alike(t, "Number of 256", rlp.Number(word.Of(256)), text(1, 0))
}

func TestP12_2ToNumber(t *testing.T) {
	for n := range 33 {
		b := counted(n + 1)[1:] // no nought ahead
		got, e := rlp.ToNumber(text(b...))
		same(t, "ToNumber's error", e, api.OK, n)
		same(t, "ToNumber", got, word.From(b), n)
		got, e = rlp.ToNumber(junk(text(b...)))
		same(t, "ToNumber's error", e, api.OK, n)
		same(t, "ToNumber", got, word.From(b), n)
	}
	got, e := rlp.ToNumber(api.Item{})
	same(t, "ToNumber's error of no bytes", e, api.OK)
	same(t, "ToNumber of no bytes", got, api.Word{})
}

func TestP12_2ToNumberRefuses(t *testing.T) {
	full := slices.Repeat([]byte{0xff}, 33)
	for _, x := range []api.Item{
		text(0), text(0, 0), text(0, 1), text(append([]byte{0}, full[:31]...)...), text(append([]byte{0}, full[:32]...)...), text(make([]byte, 32)...), text(make([]byte, 33)...),
		text(full...), text(append([]byte{1}, make([]byte, 32)...)...), long(1000),
		list(), list(text()), list(text(1)), {List: true, B: []byte{1}}, {List: true, B: []byte{1}, L: []api.Item{text(2)}},
	} {
		got, e := rlp.ToNumber(x)
		same(t, "ToNumber's error", e, api.ErrForm, toldPrint(x))
		same(t, "ToNumber", got, api.Word{}, toldPrint(x))
	}
}

func TestP12_2Same(t *testing.T) {
	d := draw(24)
	all := samples(d, 300)
	for i, x := range all {
		for range 40 {
			y := pick(d, all)
			sameItem(t, x, y, toldPrint(x) == toldPrint(y))
		}
		sameItem(t, x, changed(d, x), false)
		sameItem(t, x, rlp.List(x).L[0], true)
		sameItem(t, junk(x), x, true)
		sameItem(t, junk(x), all[(i+1)%len(all)], toldPrint(x) == toldPrint(all[(i+1)%len(all)]))
		sameItem(t, x, list(x), false)
	}
}

func sameItem(t *testing.T, x, y api.Item, want bool) {
	t.Helper()
	same(t, "Same", rlp.Same(x, y), want, brief(toldPrint(x)), brief(toldPrint(y)))
	same(t, "Same", rlp.Same(y, x), want, brief(toldPrint(y)), brief(toldPrint(x)))
}

// changed is x with one item in it another one: a byte, how many bytes or items it has, or which of both it is.
func changed(d *rand.Rand, x api.Item) api.Item {
	switch {
	case !x.List && d.IntN(3) > 0 && len(x.B) > 0:
		b := slices.Clone(x.B)
		b[d.IntN(len(b))] ^= 1 << d.IntN(8)
		return text(b...)
	case !x.List && d.IntN(2) == 0:
		return text(append(slices.Clone(x.B), byte(d.IntN(256)))...)
	case !x.List:
		return list()
	case len(x.L) == 0:
		return text()
	}
	l := slices.Clone(x.L)
	at := d.IntN(len(l))
	switch d.IntN(4) {
	case 0:
		return list(slices.Delete(l, at, at+1)...)
	case 1:
		return list(slices.Insert(l, at, text(1))...)
	}
	l[at] = changed(d, l[at])
	return list(l...)
}

func TestP12_2SameOfEmpty(t *testing.T) {
	for _, x := range []struct {
		a, b api.Item
		want bool
	}{
		{api.Item{}, api.Item{}, true}, {api.Item{}, api.Item{B: []byte{}, L: []api.Item{}}, true}, {api.Item{List: true}, api.Item{List: true, B: []byte{}, L: []api.Item{}}, true},
		{api.Item{}, api.Item{List: true}, false}, {text(), list(), false}, {text(1), list(), false}, {text(1), list(text(1)), false}, {text(), list(text()), false}, {list(), list(text()), false}, {list(list()), list(text()), false},
		{list(text(), text()), list(text()), false}, {list(text(1), text(2)), list(text(2), text(1)), false}, {list(text(1), text(2)), list(text(1, 2)), false}, {list(list(text(1)), text(2)), list(text(1), list(text(2))), false},
		{text(0), text(), false}, {text(0, 1), text(1), false}, {text(1), text(1, 0), false},
	} {
		sameItem(t, x.a, x.b, x.want)
	}
}

// Items that can't be are compared, too.
func TestP12_2SameOfTooMuch(t *testing.T) {
	sameItem(t, nested(3000, text(1)), nested(3000, text(1)), true)
	sameItem(t, nested(3000, text(1)), nested(3000, text(2)), false)
	sameItem(t, nested(3000, text(1)), nested(3001, text(1)), false)
	sameItem(t, wide(100_000), wide(100_000), true)
	sameItem(t, wide(100_000), wide(100_001), false)
	sameItem(t, long(1<<21), long(1<<21), true)
	sameItem(t, long(1<<21), long(1<<21+1), false)
	other := wide(100_000)
	other.L[99_999] = text(200)
	sameItem(t, wide(100_000), other, false)
}

func TestP12_2Print(t *testing.T) {
	for _, x := range samples(draw(25), 1000) {
		printed(t, x, toldPrint(x))
		printed(t, junk(x), toldPrint(x))
	}
	for _, x := range []struct {
		item api.Item
		want string
	}{
		{api.Item{}, `""`}, {list(), "[]"}, {list(text()), `[""]`}, {list(text(), text()), `["",""]`}, {list(list()), "[[]]"}, {list(list(), list()), "[[],[]]"},
		{text(0), "00"}, {text(0xab, 0xcd, 0xef, 0x09), "abcdef09"}, {text(0x12, 0x34, 0x56, 0x78, 0x90), "1234567890"}, {list(text(1), text(2, 3), list(text(4), text()), text(0xff)), `[01,0203,[04,""],ff]`},
	} {
		printed(t, x.item, x.want)
	}
	for _, x := range []api.Item{long(1<<20 - 4), wide(65535), crowd(65536, 0), nested(64, long(100))} {
		printed(t, x, toldPrint(x))
	}
}

func printed(t *testing.T, x api.Item, want string) {
	t.Helper()
	got, e := rlp.Print(x)
	same(t, "Print's error", e, api.OK, brief(want))
	if got != want {
		t.Fatalf("Print: got %s, want %s", brief(got), brief(want))
	}
}

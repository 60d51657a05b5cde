package rlp_test

import (
	"slices"
	"testing"

	"bailiwick/api"
	"bailiwick/rlp"
	"bailiwick/word"
)

// bytesOf is what Encode tells of an item that can be.
func bytesOf(t *testing.T, x api.Item) []byte {
	t.Helper()
	b, e := rlp.Encode(x)
	same(t, "Encode's error", e, api.OK, brief(toldPrint(x)))
	return b
}

func TestP12_3DecodeOfEncode(t *testing.T) {
	for _, x := range append(samples(draw(31), 3000), wide(65535), crowd(65536, 30), nested(64, long(999)), long(1<<20-4)) {
		b := bytesOf(t, x)
		of := brief(toldPrint(x))
		got, size, e := rlp.Decode(b)
		same(t, "Decode's error", e, api.OK, of)
		same(t, "how many bytes of Decode", size, len(b), of)
		alike(t, "Decode of Encode", got, x, of)
		same(t, "Same", rlp.Same(got, x), true, of)
		got, e = rlp.Only(b)
		same(t, "Only's error", e, api.OK, of)
		alike(t, "Only of Encode", got, x, of)
	}
}

// What Decode tells of any bytes has just these bytes: so no item has two forms.
func TestP12_3EncodeOfDecode(t *testing.T) {
	d := draw(32)
	found := 0
	for range 100_000 {
		b := bytesOf(t, drawn(d, 4))
		for range d.IntN(3) {
			at := d.IntN(len(b))
			b[at] = byte(d.IntN(256))
		}
		if d.IntN(4) == 0 {
			b = append(b, bytesOf(t, drawn(d, 2))...)
		}
		x, size, e := rlp.Decode(b)
		if e == api.OK {
			equal(t, "Encode of Decode", bytesOf(t, x), b[:size], digits(b))
			found++
		}
	}
	if found < 30_000 || found > 90_000 {
		t.Fatalf("%d of them begin with an item: that asks too little", found)
	}
}

// Items that stand one behind the other are read one by one.
func TestP12_3OneBehindTheOther(t *testing.T) {
	d := draw(33)
	for range 300 {
		var b []byte
		var l []api.Item
		for range 1 + d.IntN(20) {
			l = append(l, drawn(d, 3))
			b = append(b, bytesOf(t, l[len(l)-1])...)
		}
		for i, x := range l {
			got, size, e := rlp.Decode(b)
			same(t, "Decode's error", e, api.OK, i)
			alike(t, "Decode", got, x, i)
			b = b[size:]
		}
		same(t, "how many bytes are left", len(b), 0)
	}
}

func TestP12_4Numbers(t *testing.T) {
	for _, a := range numbers() {
		of := word.Decimal(a)
		x := rlp.Number(a)
		got, e := rlp.ToNumber(x)
		same(t, "ToNumber's error", e, api.OK, of)
		same(t, "ToNumber of Number", got, a, of)
		x, e = rlp.Only(bytesOf(t, x))
		same(t, "Only's error", e, api.OK, of)
		got, e = rlp.ToNumber(x)
		same(t, "ToNumber's error behind Only", e, api.OK, of)
		same(t, "ToNumber behind Only", got, a, of)
		alike(t, "Number of ToNumber", rlp.Number(got), x, of)
	}
}

func TestP12_5AHead(t *testing.T) {
	d := draw(35)
	for _, x := range append(samples(d, 2000), wide(65535), crowd(65536, 1), list(long(1<<20-8)), list(long(1<<16), long(1<<17)), nested(64, long(1<<19))) {
		if !x.List {
			continue
		}
		b := bytesOf(t, x)
		var inner []byte
		for _, y := range x.L {
			inner = append(inner, bytesOf(t, y)...)
		}
		of := brief(toldPrint(x))
		ahead := len(b) - len(inner)
		if ahead < 1 || ahead > 4 || !slices.Equal(b[max(0, ahead):], inner) {
			t.Fatalf("the bytes of %s are %s, of its items %s", of, digits(b), digits(inner))
		}
		equal(t, "the head", b[:ahead], toldHead(0xc0, len(inner)), of)
	}
}

package header_test

import (
	"testing"

	"bailiwick/api"
	"bailiwick/header"
	"bailiwick/rlp"
)

func TestP16_5DecodeOfEncode(t *testing.T) {
	for _, h := range samples(51, 2000) {
		alike(t, "Decode of Encode", decoded(t, bytesOf(t, h)), h)
	}
	for _, h := range heads() {
		h.Extra = counted(4096)
		alike(t, "Decode of Encode", decoded(t, bytesOf(t, h)), h)
	}
}

// What Decode tells of any bytes has just these bytes: so no head has two forms.
func TestP16_5EncodeOfDecode(t *testing.T) {
	d := draw(52)
	found := 0
	for range 8_000 {
		b := bytesOf(t, drawnHead(d))
		for range d.IntN(3) {
			b[d.IntN(len(b))] = byte(d.Uint32())
		}
		h, e := header.Decode(b)
		if e == api.OK {
			found++
			same(t, "Check", header.Check(h), api.OK, h)
			equal(t, "Encode of Decode", bytesOf(t, h), b, h)
		}
	}
	if found < 4_000 {
		t.Fatalf("%d of the bytes are a head's", found)
	}
}

func TestP16_5ReadOfWhole(t *testing.T) {
	for _, x := range append(blocks(), drawnList(53, 800, drawnBlock)...) {
		alike(t, "Read of Whole", readOf(t, wholeOf(t, x)), x)
	}
}

func TestP16_5WholeOfRead(t *testing.T) {
	d := draw(54)
	found := 0
	for range 4_000 {
		b := wholeOf(t, drawnBlock(d))
		for range d.IntN(3) {
			b[d.IntN(len(b))] = byte(d.Uint32())
		}
		x, e := header.Read(b)
		if e == api.OK {
			found++
			equal(t, "Whole of Read", wholeOf(t, x), b, x)
		}
	}
	if found < 1600 {
		t.Fatalf("%d of the bytes are a block's", found)
	}
}

// What stands in a block as its first part is the head's bytes; each transaction has its own.
func TestP16_5Parts(t *testing.T) {
	for _, x := range append(blocks(), drawnList(55, 300, drawnBlock)...) {
		y, e := rlp.Only(wholeOf(t, x))
		same(t, "Only's error", e, api.OK, x)
		equal(t, "the first part", built(y.L[0].L...), bytesOf(t, x.Header), x)
		for i, of := range y.L[1].L {
			if of.List {
				equal(t, "a list", built(of.L...), txBytes(x.Txs[i]), i)
				continue
			}
			equal(t, "bytes", of.B, txBytes(x.Txs[i]), i)
		}
	}
}

func TestP16_6NeverForgotten(t *testing.T) {
	for _, logs := range drawnList(61, 3000, drawnLogs) {
		bloom := header.Bloom(logs)
		for _, l := range logs {
			same(t, "Has of an address", header.Has(bloom, l.Address[:]), true, logs)
			for _, topic := range l.Topics {
				same(t, "Has of a topic", header.Has(bloom, topic[:]), true, logs)
			}
		}
	}
}

// More logs forget nothing; a bloom of all is that of some and that of the others.
func TestP16_6More(t *testing.T) {
	d := draw(62)
	for range 300 {
		some, others := drawnLogs(d), drawnLogs(d)
		a, b, all := header.Bloom(some), header.Bloom(others), header.Bloom(append(some, others...))
		for i := range all {
			same(t, "Bloom of all", all[i], a[i]|b[i], i)
		}
		for _, l := range some {
			same(t, "Has of an address", header.Has(all, l.Address[:]), true, some)
		}
	}
}

// Most of what is in no log is told to be in none.
func TestP16_6MostlyNot(t *testing.T) {
	d := draw(63)
	found := 0
	for range 300 {
		bloom := header.Bloom([]api.Log{drawnLog(d, 10), drawnLog(d, 10)})
		for n := range 10 {
			a := who(d.IntN(1 << 16))
			a[10] = byte(n)
			if header.Has(bloom, a[:]) {
				found++
			}
		}
	}
	if found > 3 {
		t.Fatalf("%d of 3000 are there", found)
	}
}

package rlp_test

import (
	"bytes"
	"slices"
	"testing"

	"bailiwick/api"
	"bailiwick/rlp"
)

// decoded holds what Decode and Only answer for bytes that begin with an item.
func decoded(t *testing.T, b []byte, want api.Item, size int, of ...any) {
	t.Helper()
	x, n, e := rlp.Decode(b)
	same(t, "Decode's error", e, api.OK, of...)
	same(t, "how many bytes of Decode", n, size, of...)
	alike(t, "Decode", x, want, of...)
	x, e = rlp.Only(b)
	if size < len(b) {
		same(t, "Only's error", e, api.ErrForm, of...)
		want = api.Item{}
	} else {
		same(t, "Only's error", e, api.OK, of...)
	}
	alike(t, "Only", x, want, of...)
}

// refused holds what Decode and Only answer for bytes that begin with no item.
func refused(t *testing.T, b []byte, want api.Errno, of ...any) {
	t.Helper()
	x, n, e := rlp.Decode(b)
	same(t, "Decode's error", e, want, of...)
	same(t, "how many bytes of Decode", n, 0, of...)
	nothing(t, "Decode", x, of...)
	x, e = rlp.Only(b)
	same(t, "Only's error", e, want, of...)
	nothing(t, "Only", x, of...)
}

func nothing(t *testing.T, what string, x api.Item, of ...any) {
	t.Helper()
	if x.List || len(x.B) > 0 || len(x.L) > 0 {
		t.Fatalf("%s of %v: got %s beside the error", what, of, brief(toldPrint(x)))
	}
}

// asTold holds what Decode and Only answer against the chapter's words, and tells whether these find an item.
func asTold(t *testing.T, b []byte) bool {
	t.Helper()
	want, size, e := toldDecode(b)
	if e != api.OK {
		refused(t, b, e, digits(b))
		return false
	}
	decoded(t, b, want, size, digits(b))
	return true
}

func TestP12_1Decode(t *testing.T) {
	d := draw(11)
	for _, x := range samples(d, 2000) {
		b := toldBytes(x)
		of := brief(toldPrint(x))
		decoded(t, b, x, len(b), of)
		for _, n := range []int{1, 2, 100} {
			behind := make([]byte, n)
			for i := range behind {
				behind[i] = byte(d.IntN(256))
			}
			decoded(t, append(slices.Clip(b), behind...), x, len(b), of, digits(behind))
		}
	}
}

// All byte strings of up to two bytes, and those of three that begin with each of them that is no item.
func TestP12_1DecodeOfFewBytes(t *testing.T) {
	asTold(t, nil)
	asTold(t, []byte{})
	found := 0
	for i := range 256 {
		asTold(t, []byte{byte(i)})
		for j := range 256 {
			if asTold(t, []byte{byte(i), byte(j)}) {
				found++
			}
		}
	}
	// 128 single bytes, 80 and c0 with anything behind them; 81 with 128 bytes; c1 with 128 bytes, 80 and c0.
	same(t, "how many of two bytes begin with an item", found, 130*256+128+130)
}

// All byte strings of up to four bytes where heads change, and behind some beginnings those of up to three.
func TestP12_1DecodeOfHeads(t *testing.T) {
	where := []byte{0, 1, 0x37, 0x38, 0x7f, 0x80, 0x81, 0x82, 0x83, 0xb7, 0xb8, 0xb9, 0xba, 0xbf, 0xc0, 0xc1, 0xc2, 0xc3, 0xc4, 0xf7, 0xf8, 0xf9, 0xff}
	var all func(b []byte, more int)
	all = func(b []byte, more int) {
		asTold(t, b)
		if more > 0 {
			for _, x := range where {
				all(append(slices.Clip(b), x), more-1)
			}
		}
	}
	all(nil, 4)
	for _, inner := range []byte{0x81, 0x82, 0xb8, 0xb9, 0xba, 0xc1, 0xc2, 0xf8, 0xf9, 0xfa} {
		all([]byte{0xc4, inner}, 3)
		all([]byte{0xc5, 0xc4, inner}, 3)
	}
}

// Each beginning of an item's bytes is too short; each other change is as the chapter's words tell.
func TestP12_1DecodeOfWhatIsTorn(t *testing.T) {
	d := draw(12)
	for _, x := range samples(d, 600) {
		b := toldBytes(x)
		for range 20 {
			n := d.IntN(len(b))
			refused(t, b[:n], api.ErrShort, digits(b), n)
		}
		for range 20 {
			other := slices.Clone(b)
			for range 1 + d.IntN(2) {
				other[d.IntN(len(b))] ^= 1 << d.IntN(8)
			}
			asTold(t, other)
			at := d.IntN(len(b))
			asTold(t, slices.Insert(slices.Clone(b), at, byte(d.IntN(256))))
			asTold(t, slices.Delete(slices.Clone(b), at, at+1))
		}
	}
}

// Bytes that look like any, of which many are heads.
func TestP12_1DecodeOfAnyBytes(t *testing.T) {
	d := draw(13)
	found := 0
	for range 200_000 {
		b := make([]byte, d.IntN(24))
		for i := range b {
			switch d.IntN(4) {
			case 0:
				b[i] = byte(d.IntN(256))
			case 1:
				b[i] = byte(0xc0 + d.IntN(12))
			case 2:
				b[i] = byte(0x80 + d.IntN(6))
			default:
				b[i] = byte(d.IntN(0x80))
			}
		}
		if asTold(t, b) {
			found++
		}
	}
	if found < 50_000 || found > 150_000 {
		t.Fatalf("%d of them begin with an item: that asks too little", found)
	}
}

// What is wrong with bytes, wherever they stand alone, in lists, or ahead of others.
func TestP12_1DecodeRefuses(t *testing.T) {
	for _, x := range []struct {
		bytes string
		want  api.Errno
	}{
		{"", api.ErrShort},
		{"81", api.ErrShort}, {"8100", api.ErrForm}, {"817f", api.ErrForm}, {"8101ff", api.ErrForm},
		{"82", api.ErrShort}, {"8201", api.ErrShort}, {"b7", api.ErrShort},
		{"b8", api.ErrShort}, {"b9", api.ErrShort}, {"b900", api.ErrShort}, {"b901", api.ErrShort}, {"ba0000", api.ErrShort},
		{"bf", api.ErrShort}, {"bf00000000000000", api.ErrShort}, {"bfffffffffffffff", api.ErrShort},
		{"b800", api.ErrForm}, {"b801", api.ErrForm}, {"b80180", api.ErrForm}, {"b837", api.ErrForm}, {"b838", api.ErrShort}, {"b8ff", api.ErrShort},
		{"b90000", api.ErrForm}, {"b90038", api.ErrForm}, {"b900ff", api.ErrForm}, {"b90100", api.ErrShort}, {"b90038ff", api.ErrForm},
		{"ba000000", api.ErrForm}, {"ba00ffff", api.ErrForm}, {"ba010000", api.ErrShort},
		{"ba0ffffb", api.ErrShort}, {"ba0ffffc", api.ErrShort}, {"ba0ffffd", api.ErrLong}, {"ba0fffff", api.ErrLong}, {"ba100000", api.ErrLong}, {"ba100001", api.ErrLong}, {"baffffff", api.ErrLong},
		{"bb00100000", api.ErrForm}, {"bb01000000", api.ErrLong}, {"bb7fffffff", api.ErrLong}, {"bb80000000", api.ErrLong}, {"bbffffffff", api.ErrLong},
		{"bc0100000000", api.ErrLong}, {"bc0000000001", api.ErrForm}, {"bd010000000000", api.ErrLong}, {"be01000000000000", api.ErrLong},
		{"bf0100000000000000", api.ErrLong}, {"bf0100000000000038", api.ErrLong}, {"bf7fffffffffffffff", api.ErrLong}, {"bf8000000000000000", api.ErrLong}, {"bfffffffffffffffff", api.ErrLong},
		{"bf0000000000000038", api.ErrForm}, {"bf00ffffffffffffff", api.ErrForm}, {"bffffffffffffffff6", api.ErrLong}, {"bffffffffffffffff7", api.ErrLong},
		{"c1", api.ErrShort}, {"c2", api.ErrShort}, {"c201", api.ErrShort}, {"c281", api.ErrShort}, {"c28101", api.ErrForm}, {"f7", api.ErrShort},
		{"c181", api.ErrForm}, {"c182", api.ErrForm}, {"c1b8", api.ErrForm}, {"c1c1", api.ErrForm}, {"c1f8", api.ErrForm}, {"c1ff", api.ErrForm}, {"c18180", api.ErrForm}, {"c1c100", api.ErrForm},
		{"f8", api.ErrShort}, {"f9", api.ErrShort}, {"f900", api.ErrShort}, {"ff", api.ErrShort}, {"ff00000000000000", api.ErrShort},
		{"f800", api.ErrForm}, {"f801", api.ErrForm}, {"f80180", api.ErrForm}, {"f837", api.ErrForm}, {"f838", api.ErrShort}, {"f90000", api.ErrForm}, {"f90038", api.ErrForm}, {"f90100", api.ErrShort},
		{"fa0ffffc", api.ErrShort}, {"fa0ffffd", api.ErrLong}, {"fa100000", api.ErrLong}, {"fa100001", api.ErrLong}, {"fb01000000", api.ErrLong}, {"fb00100000", api.ErrForm},
		{"ff0100000000000000", api.ErrLong}, {"ff8000000000000000", api.ErrLong}, {"ffffffffffffffffff", api.ErrLong}, {"ff0000000000000038", api.ErrForm}, {"fffffffffffffffff7", api.ErrLong},
	} {
		b := unhex(x.bytes)
		refused(t, b, x.want, x.bytes)
		if len(b) == 0 {
			continue
		}
		inner := x.want
		if inner == api.ErrShort {
			inner = api.ErrForm
		}
		for _, n := range []int{1, 2, 62} {
			refused(t, wrapped(n, b), inner, x.bytes, n)
			refused(t, wrapped(n, append(unhex("01820203c3c20405"), b...)), inner, x.bytes, n)
		}
	}
}

// The first fault is told, item by item.
func TestP12_1DecodeTheFirst(t *testing.T) {
	const formFault, longFault, shortFault = "8105", "bb01000000", "82ff"
	for _, x := range []struct {
		bytes string
		want  api.Errno
	}{
		{"c7" + formFault + longFault, api.ErrForm}, {"c7" + longFault + formFault, api.ErrLong},
		{"c8" + "c2" + formFault + longFault, api.ErrForm}, {"c8" + "c5" + longFault + formFault, api.ErrLong},
		{"c8" + formFault + "c5" + longFault, api.ErrForm}, {"c8" + longFault + "c2" + formFault, api.ErrLong},
		{"c8" + "c2" + shortFault + longFault, api.ErrForm}, {"c8" + longFault + "c2" + shortFault, api.ErrLong},
		{"c9" + longFault + formFault, api.ErrShort}, {"c9" + formFault + longFault, api.ErrShort},
		{"f801" + longFault, api.ErrForm}, {"fb01000000" + formFault, api.ErrLong}, {"fa0ffffd" + formFault, api.ErrLong}, {"fa0ffffc" + formFault, api.ErrShort},
		{"f838" + formFault, api.ErrShort}, {"f838" + longFault, api.ErrShort},
		{"c28200" + longFault, api.ErrForm}, {"c2" + formFault + longFault, api.ErrForm},
	} {
		refused(t, unhex(x.bytes), x.want, x.bytes)
	}
}

func TestP12_1DecodeOfManyBytes(t *testing.T) {
	for _, x := range []api.Item{long(1<<20 - 4), list(long(1<<20 - 8)), nested(64, long(1<<20-4*65)), list(long(1<<19), long(1<<19-12))} {
		b := toldBytes(x)
		same(t, "how many bytes", len(b), 1<<20)
		decoded(t, b, x, len(b), "2^20 bytes")
		decoded(t, append(b, 0), x, len(b), "2^20 bytes, and one")
		decoded(t, append(b, b...), x, len(b), "2^20 bytes, twice")
		refused(t, b[:len(b)-1], api.ErrShort, "2^20 bytes less one")
	}
	for _, n := range []int{1<<20 - 3, 1<<20 - 1, 1 << 20, 1<<20 + 1, 1 << 24} {
		refused(t, toldBytes(long(n)), api.ErrLong, n)
		refused(t, toldBytes(long(n))[:10], api.ErrLong, n)
		refused(t, toldBytes(list(long(n))), api.ErrLong, n)
		refused(t, toldBytes(list(long(n)))[:10], api.ErrLong, n)
		refused(t, wrapped(1, toldBytes(long(n))[:10]), api.ErrLong, n)
	}
	refused(t, toldBytes(list(long(1<<20-7))), api.ErrLong)
	refused(t, toldBytes(list(long(1<<20-8), text())), api.ErrLong)
	refused(t, bytes.Repeat([]byte{0xff}, 1<<21), api.ErrLong)
}

func TestP12_1DecodeOfManyItems(t *testing.T) {
	for _, x := range []api.Item{wide(65534), wide(65535), crowd(65536, 0), crowd(65536, 1), crowd(65536, 200), crowd(65536, 40_000)} {
		b := toldBytes(x)
		decoded(t, b, x, len(b), toldItems(x))
		decoded(t, append(b, 0), x, len(b), toldItems(x))
	}
	for _, x := range []api.Item{wide(65536), wide(65537), wide(500_000), crowd(65537, 0), crowd(65537, 1), crowd(65537, 200), crowd(65537, 40_000), list(crowd(65536, 0)), list(list(wide(32768)), wide(32767))} {
		refused(t, toldBytes(x), api.ErrLong, toldItems(x))
	}
}

// An item too many is that whatever its bytes are; what is wrong ahead of it, or with the list that it lies in, is told first.
func TestP12_1DecodeOfAFaultAmongMany(t *testing.T) {
	for _, fault := range []string{"82", "8105", "b800", "b8", "c1", "f8", "f800", "bb01000000"} {
		inner := unhex(fault)
		want := toldError(wrapped(1, inner))
		for n, e := range map[int]api.Errno{0: want, 1: want, 65533: want, 65534: want, 65535: api.ErrLong, 65536: api.ErrLong, 70_000: api.ErrLong} {
			refused(t, wrapped(1, append(make([]byte, n), inner...)), e, fault, n)
		}
	}
	for fault, want := range map[string]api.Errno{"8105": api.ErrForm, "b800": api.ErrForm, "c28105": api.ErrForm, "bb01000000": api.ErrLong} {
		refused(t, wrapped(1, append(unhex(fault), make([]byte, 70_000)...)), want, fault)
	}
	refused(t, append(toldHead(0xc0, 1<<19), make([]byte, 70_000)...), api.ErrShort)
}

func toldError(b []byte) api.Errno {
	_, _, e := toldDecode(b)
	return e
}

func TestP12_1DecodeOfDeepItems(t *testing.T) {
	for _, inner := range []api.Item{text(), text(1), long(100), list()} {
		for _, n := range []int{1, 32, 62, 63} {
			x := nested(n, inner)
			b := toldBytes(x)
			decoded(t, b, x, len(b), n)
			decoded(t, append(b, 0x80), x, len(b), n)
		}
		for _, n := range []int{65, 66, 100, 5000} {
			refused(t, toldBytes(nested(n, inner)), api.ErrLong, n)
		}
	}
	x := nested(64, text(1))
	decoded(t, toldBytes(x), x, len(toldBytes(x)))
	refused(t, toldBytes(nested(64, list())), api.ErrLong)
	x = list(nested(63, text(1)), text(2), nested(63, text(3)), nested(62, list()))
	decoded(t, toldBytes(x), x, len(toldBytes(x)))
	refused(t, toldBytes(list(text(2), nested(63, text(1)), nested(63, list()))), api.ErrLong)
	refused(t, bytes.Repeat([]byte{0xc1}, 1000), api.ErrForm) // the second list is all there, as the first one tells; the third is not
}

// A list too deep is that whatever its bytes are; bytes lie no deeper than the list that they are in.
func TestP12_1DecodeOfAFaultDeepDown(t *testing.T) {
	for _, x := range []struct {
		bytes string
		at64  api.Errno
	}{
		{"c0", api.ErrLong}, {"c1", api.ErrLong}, {"f8", api.ErrLong}, {"f800", api.ErrLong}, {"ff", api.ErrLong}, {"fb01000000", api.ErrLong}, {"c18105", api.ErrLong},
		{"81", api.ErrForm}, {"8105", api.ErrForm}, {"b8", api.ErrForm}, {"b800", api.ErrForm}, {"bb01000000", api.ErrLong},
	} {
		b := unhex(x.bytes)
		refused(t, wrapped(64, b), x.at64, x.bytes)
		refused(t, wrapped(65, b), api.ErrLong, x.bytes)
		refused(t, wrapped(64, append([]byte{0x81, 0x05}, b...)), api.ErrForm, x.bytes)
		if x.bytes != "c0" {
			refused(t, wrapped(63, b), toldError(wrapped(1, b)), x.bytes)
		}
	}
}

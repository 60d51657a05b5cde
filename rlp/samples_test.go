package rlp_test

import (
	"bytes"
	"encoding/hex"
	"math/rand/v2"
	"strings"
	"testing"

	"bailiwick/api"
)

// draw makes numbers that look like any, and are the same ones in each run.
func draw(seed uint64) *rand.Rand {
	return rand.New(rand.NewPCG(seed, 12))
}

// pick is one of l.
func pick[T any](d *rand.Rand, l []T) T {
	return l[d.IntN(len(l))]
}

// same holds got against want, and tells of what they are.
func same[T comparable](t *testing.T, what string, got, want T, of ...any) {
	t.Helper()
	if got != want {
		t.Fatalf("%s of %v: got %v, want %v", what, of, got, want)
	}
}

// equal holds bytes against others.
func equal(t *testing.T, what string, got, want []byte, of ...any) {
	t.Helper()
	if !bytes.Equal(got, want) {
		t.Fatalf("%s of %v: got %s, want %s", what, of, digits(got), digits(want))
	}
}

// alike holds an item against another one, and looks whether what plays no part in it is none.
func alike(t *testing.T, what string, got, want api.Item, of ...any) {
	t.Helper()
	if toldPrint(got) != toldPrint(want) {
		t.Fatalf("%s of %v: got %s, want %s", what, of, brief(toldPrint(got)), brief(toldPrint(want)))
	}
	if !plain(got) {
		t.Fatalf("%s of %v: got %#v, which has both bytes and items", what, of, got)
	}
}

// plain tells whether no list has bytes, and nothing else items.
func plain(x api.Item) bool {
	if !x.List {
		return len(x.L) == 0
	}
	for _, y := range x.L {
		if !plain(y) {
			return false
		}
	}
	return len(x.B) == 0
}

// brief is a text, or its beginning.
func brief(text string) string {
	const most = 400
	if len(text) > most {
		return text[:most] + " .."
	}
	return text
}

// digits are b's, or those of its beginning.
func digits(b []byte) string {
	return brief(hex.EncodeToString(b))
}

// unhex is the bytes of hexadecimal digits, which may stand in groups.
func unhex(text string) []byte {
	b, err := hex.DecodeString(strings.ReplaceAll(text, " ", ""))
	if err != nil {
		panic(err)
	}
	return b
}

// text is the item of b, list that of l; neither calls the package.
func text(b ...byte) api.Item {
	return api.Item{B: b}
}

func list(l ...api.Item) api.Item {
	return api.Item{List: true, L: l}
}

// counted is n bytes that count up; as 251 is a prime, no two blocks of them are alike.
func counted(n int) []byte {
	out := make([]byte, n)
	for i := range out {
		out[i] = byte(i % 251)
	}
	return out
}

// long is an item of n bytes.
func long(n int) api.Item {
	return text(counted(n)...)
}

// wide is a list of n items.
func wide(n int) api.Item {
	out := list()
	for i := range n {
		out.L = append(out.L, text(byte(i%128)))
	}
	return out
}

// nested is x in n lists.
func nested(n int, x api.Item) api.Item {
	for range n {
		x = list(x)
	}
	return x
}

// wrapped is b in n lists, by their heads.
func wrapped(n int, b []byte) []byte {
	for range n {
		b = append(toldHead(0xc0, len(b)), b...)
	}
	return b
}

// crowd is a list of so many items in all, in lists of at most so many each; it is at least one.
func crowd(items, each int) api.Item {
	out := list()
	left := items - 1
	for left > 0 {
		inner := wide(min(each, left-1))
		out.L = append(out.L, inner)
		left -= 1 + len(inner.L)
	}
	return out
}

// edges are how many bytes there are where heads change, or nearly so.
func edges() []int {
	return []int{0, 1, 2, 3, 31, 32, 33, 53, 54, 55, 56, 57, 58, 254, 255, 256, 257, 65534, 65535, 65536, 65537}
}

// drawnText is bytes, often ones whose head is of another kind, and seldom many.
func drawnText(d *rand.Rand) api.Item {
	switch d.IntN(8) {
	case 0:
		return text()
	case 1, 2:
		return text(byte(d.IntN(256)))
	case 3:
		return text(pick(d, []byte{0, 1, 0x7f, 0x80, 0x81, 0xb7, 0xb8, 0xc0, 0xf7, 0xf8, 0xff}))
	}
	n := d.IntN(40)
	if d.IntN(6) == 0 {
		n = pick(d, edges()[:17])
	}
	out := make([]byte, n)
	for i := range out {
		out[i] = byte(d.IntN(256))
	}
	return text(out...)
}

// drawn is an item, a list at most so deep.
func drawn(d *rand.Rand, deep int) api.Item {
	if deep == 0 || d.IntN(3) == 0 {
		return drawnText(d)
	}
	out := list()
	for range d.IntN(6) {
		out.L = append(out.L, drawn(d, deep-1))
	}
	return out
}

// samples are small items, items at the ends of what heads tell, and some that are drawn.
func samples(d *rand.Rand, count int) []api.Item {
	out := []api.Item{text(), list(), list(text()), list(list()), list(list(), list(list()), list(list(), list(list())))}
	for i := range 256 {
		out = append(out, text(byte(i)), list(text(byte(i))), text(byte(i), byte(255-i)))
	}
	for _, n := range edges() {
		out = append(out, long(n), wide(min(n, 300)), list(long(n)), list(long(n), text(7)))
	}
	for _, n := range []int{2, 10, 50, 62, 63} {
		out = append(out, nested(n, text(1)), nested(n, text(1, 2)), nested(n, list()), nested(n, long(300)))
	}
	for range count {
		out = append(out, drawn(d, 1+d.IntN(6)))
	}
	return out
}

// junk is x with bytes in its lists and items in its bytes, which play no part.
func junk(x api.Item) api.Item {
	if !x.List {
		return api.Item{B: x.B, L: []api.Item{text(1), list(text(2))}}
	}
	out := api.Item{List: true, B: []byte{1, 2, 3}}
	for _, y := range x.L {
		out.L = append(out.L, junk(y))
	}
	return out
}

// endless is a list in which it lies itself, so many times.
func endless(times int) api.Item {
	out := api.Item{List: true, L: make([]api.Item, times)}
	for i := range out.L {
		out.L[i] = out
	}
	return out
}

// doubled is an item of 2 to the power n times x, in so many lists.
func doubled(n int, x api.Item) api.Item {
	for range n {
		x = list(x, x)
	}
	return x
}

package trie_test

import (
	"bytes"
	"encoding/hex"
	"math/rand/v2"
	"slices"
	"strings"
	"testing"

	"bailiwick/api"
	"bailiwick/trie"
)

// draw makes numbers that look like any, and are the same ones in each run.
func draw(seed uint64) *rand.Rand {
	return rand.New(rand.NewPCG(seed, 14))
}

// pick is one of l.
func pick[T any](d *rand.Rand, l []T) T {
	return l[d.IntN(len(l))]
}

// same holds got against want, and tells of what they are.
func same[T comparable](t *testing.T, what string, got, want T, of ...any) {
	t.Helper()
	if got != want {
		t.Fatalf("%s of %v: got %v, want %v", what, of, got, want)
	}
}

// equal holds bytes against others.
func equal(t *testing.T, what string, got, want []byte, of ...any) {
	t.Helper()
	if !bytes.Equal(got, want) {
		t.Fatalf("%s of %v: got %s, want %s", what, of, digits(got), digits(want))
	}
}

// alike holds lists of bytes against others.
func alike(t *testing.T, what string, got, want [][]byte, of ...any) {
	t.Helper()
	if !slices.EqualFunc(got, want, bytes.Equal) {
		t.Fatalf("%s of %v: got %s, want %s", what, of, allDigits(got), allDigits(want))
	}
}

// digits are b's, or those of its beginning.
func digits(b []byte) string {
	const most = 400
	text := hex.EncodeToString(b)
	if len(text) > most {
		return text[:most] + " .."
	}
	return text
}

func allDigits(l [][]byte) string {
	var out []string
	for _, b := range l {
		out = append(out, digits(b))
	}
	return "[" + strings.Join(out, ", ") + "]"
}

// unhex is the bytes of hexadecimal digits, which may stand in groups.
func unhex(text string) []byte {
	b, err := hex.DecodeString(strings.ReplaceAll(text, " ", ""))
	if err != nil {
		panic(err)
	}
	return b
}

// counted is n bytes that count up; as 251 is a prime, no two blocks of them are alike.
func counted(n int) []byte {
	out := make([]byte, n)
	for i := range out {
		out[i] = byte(i % 251)
	}
	return out
}

// drawnBytes is n bytes.
func drawnBytes(d *rand.Rand, n int) []byte {
	out := make([]byte, n)
	for i := range out {
		out[i] = byte(d.IntN(256))
	}
	return out
}

// pairs is a map as Go has it: what a trie is held against.
type pairs map[string]string

// keys are those of m, by their order.
func (m pairs) keys() []string {
	var out []string
	for key := range m {
		out = append(out, key)
	}
	slices.Sort(out)
	return out
}

// trie is a trie of m's pairs.
func (m pairs) trie(t *testing.T) *trie.Trie {
	t.Helper()
	out := trie.New()
	for _, key := range m.keys() {
		same(t, "Put", out.Put([]byte(key), []byte(m[key])), api.OK, digits([]byte(key)))
	}
	return out
}

// lists are m's keys and values, by their order.
func (m pairs) lists() (keys, values [][]byte) {
	for _, key := range m.keys() {
		keys = append(keys, []byte(key))
		values = append(values, []byte(m[key]))
	}
	return keys, values
}

// holds looks whether t is m's map: all that Get, Len and All tell, Get of some other keys too.
func (m pairs) holds(t *testing.T, what string, got *trie.Trie, others ...string) {
	t.Helper()
	same(t, "Len", got.Len(), len(m), what)
	var keys []string
	for key, value := range got.All() {
		keys = append(keys, string(key))
		equal(t, "All's value", value, []byte(m[string(key)]), what, digits(key))
	}
	if !slices.Equal(keys, m.keys()) {
		t.Fatalf("All's keys of %s: got %x, want %x", what, keys, m.keys())
	}
	for _, key := range append(m.keys(), others...) {
		value, there := got.Get([]byte(key))
		want, wanted := m[key]
		same(t, "whether Get tells something", there, wanted, what, digits([]byte(key)))
		equal(t, "Get", value, []byte(want), what, digits([]byte(key)))
	}
}

// few are keys of all shapes that nodes may have between them: beginnings of one another, and some that part at a high or a low nibble.
func few() []string {
	return []string{"", "\x00", "\x01", "\x10", "\x11", "\x00\x00", "\x00\x01", "\x00\x10", "\x01\x00", "\xff", "\x11\x11\x11", "\x11\x11\x12"}
}

// subset is those of few keys whose bits are in which; their values are so long.
func subset(which, size int) pairs {
	out := pairs{}
	for i, key := range few() {
		if which>>i&1 == 1 {
			out[key] = valueOf(i, size)
		}
	}
	return out
}

// valueOf is a value for a number: so long.
func valueOf(i, size int) string {
	return strings.Repeat(string(rune('a'+i)), size)
}

// drawnKey is a key of one of many shapes: of few bytes and kinds of them, so that often some begin alike.
func drawnKey(d *rand.Rand) string {
	switch d.IntN(10) {
	case 0:
		return pick(d, few())
	case 1:
		return string(drawnBytes(d, d.IntN(65)))
	case 2:
		return strings.Repeat("\x22", d.IntN(65))
	case 3:
		return strings.Repeat("\x22", d.IntN(64)) + string(rune(d.IntN(128)))
	}
	out := make([]byte, d.IntN(5))
	for i := range out {
		out[i] = pick(d, []byte{0x00, 0x01, 0x10, 0x11, 0x12, 0x20, 0xf0, 0x0f, 0xff})
	}
	return string(out)
}

// drawnValue is a value of few bytes, or so many that a node is some 32, or more.
func drawnValue(d *rand.Rand) string {
	n := 1 + d.IntN(34)
	switch d.IntN(8) {
	case 0:
		n = 1
	case 1:
		n = pick(d, []int{54, 55, 56, 57, 255, 256, 300})
	}
	return string(drawnBytes(d, n))
}

// drawn is a map of at most so many pairs.
func drawn(d *rand.Rand, most int) pairs {
	out := pairs{}
	for range d.IntN(most + 1) {
		out[drawnKey(d)] = drawnValue(d)
	}
	return out
}

// samples are maps of all kinds: none, one pair, keys and values as long as may be, nodes of just below and above 32 bytes.
func samples(d *rand.Rand, count int) []pairs {
	out := []pairs{
		{},
		{"": "a"},
		{"a": "b"},
		{"": strings.Repeat("v", 65536)},
		{strings.Repeat("k", 64): strings.Repeat("v", 65536)},
		{strings.Repeat("k", 64): "v", strings.Repeat("k", 63): "w", strings.Repeat("k", 63) + "l": "x"},
		{"do": "verb", "dog": "puppy", "doge": "coin", "horse": "stallion"},
	}
	chain := pairs{}
	for n := range 65 {
		chain[strings.Repeat("\x7f", n)] = string(counted(n + 1))
	}
	out = append(out, chain)
	wide := pairs{}
	for x := range 256 {
		wide[string([]byte{byte(x)})] = string(counted(1 + x%40))
	}
	out = append(out, wide)
	for n := 1; n <= 60; n++ {
		out = append(out, pairs{"\x12\x34": string(counted(n))}, pairs{"\x12\x34": string(counted(n)), "\x12\x35": "z"}, pairs{"\x12\x34": string(counted(n)), "\x82\x35": "\x01", "": "\x80"})
	}
	for range count {
		out = append(out, drawn(d, 1+d.IntN(40)))
	}
	return out
}

// near are keys that m has, and others like them: beginnings, longer ones, some that part from them somewhere.
func near(d *rand.Rand, m pairs, count int) []string {
	out := []string{"", "\x00", "zzz", strings.Repeat("k", 64), strings.Repeat("\x7f", 70), string(counted(200))}
	keys := m.keys()
	for range min(count, 5*len(keys)) {
		key := pick(d, keys)
		out = append(out, key, key[:d.IntN(len(key)+1)], key+"\x00", key+drawnKey(d))
		if len(key) > 0 {
			b := []byte(key)
			b[d.IntN(len(b))] ^= 1 << d.IntN(8)
			out = append(out, string(b))
		}
	}
	return out
}

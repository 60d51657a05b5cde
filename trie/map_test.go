package trie_test

import (
	"math/rand/v2"
	"slices"
	"strings"
	"sync"
	"testing"

	"bailiwick/api"
	"bailiwick/trie"
)

func TestP14_1New(t *testing.T) {
	pairs{}.holds(t, "a new map", trie.New(), few()...)
	same(t, "Delete of an empty map", trie.New().Delete(nil), false)
	same(t, "Delete of an empty map", trie.New().Delete([]byte{1}), false)
	pairs{}.holds(t, "a copy of a new map", trie.New().Copy(), few()...)
}

// All subsets of a few keys, and what comes of them by one change.
func TestP14_1Subsets(t *testing.T) {
	keys := few()
	for which := range 1 << len(keys) {
		m := subset(which, 1+which%40)
		got := m.trie(t)
		m.holds(t, "a subset", got, keys...)
		i := which % len(keys)
		key := []byte(keys[i])
		_, there := m[keys[i]]
		same(t, "Delete", got.Delete(key), there, which, i)
		delete(m, keys[i])
		m.holds(t, "a subset less one", got, keys...)
		same(t, "Delete once more", got.Delete(key), false, which, i)
		m.holds(t, "a subset less one", got, keys...)
		m[keys[i]] = "new"
		same(t, "Put", got.Put(key, []byte("new")), api.OK, which, i)
		m.holds(t, "a subset and one", got, keys...)
		m[keys[i]] = "newer"
		same(t, "Put once more", got.Put(key, []byte("newer")), api.OK, which, i)
		m.holds(t, "a subset and another one", got, keys...)
	}
}

// A key has up to 64 bytes, a value up to 2^16 and at least one; what is refused changes nothing.
func TestP14_1Limits(t *testing.T) {
	some := pairs{"a": "b", strings.Repeat("k", 64): "c", strings.Repeat("k", 65)[:63]: "d"}
	for _, x := range []struct {
		key, value int
		want       api.Errno
	}{
		{0, 1, api.OK}, {64, 1, api.OK}, {64, 1 << 16, api.OK}, {0, 1 << 16, api.OK},
		{65, 1, api.ErrLong}, {66, 1, api.ErrLong}, {1000, 1, api.ErrLong},
		{1, 1<<16 + 1, api.ErrLong}, {0, 1 << 17, api.ErrLong}, {65, 1<<16 + 1, api.ErrLong},
		{0, 0, api.ErrArg}, {64, 0, api.ErrArg}, {65, 0, api.ErrLong},
	} {
		m := some.trie(t)
		key, value := counted(x.key), counted(x.value)
		same(t, "Put", m.Put(key, value), x.want, x.key, x.value)
		wanted := pairs{}
		for key, value := range some {
			wanted[key] = value
		}
		if x.want == api.OK {
			wanted[string(key)] = string(value)
		}
		wanted.holds(t, "a map at its limits", m, string(key))
		same(t, "Root", m.Root(), toldRoot(wanted), x.key, x.value)
		_, e := trie.Root([][]byte{key}, [][]byte{value})
		same(t, "Root's error", e, x.want, x.key, x.value)
	}
	m := some.trie(t)
	same(t, "Put of none", m.Put([]byte("a"), nil), api.ErrArg)
	same(t, "Put of none", m.Put([]byte("a"), []byte{}), api.ErrArg)
	some.holds(t, "a map that none was put in", m)
}

// Keys longer than there may be are not there.
func TestP14_1LongKeys(t *testing.T) {
	m := pairs{strings.Repeat("k", 64): "a", strings.Repeat("k", 63): "b", "": "c"}
	got := m.trie(t)
	for n := 65; n < 300; n++ {
		key := strings.Repeat("k", n)
		m.holds(t, "a map", got, key)
		same(t, "Delete", got.Delete([]byte(key)), false, n)
	}
	m.holds(t, "a map", got)
}

// The order is by bytes, a beginning first, as strings have it.
func TestP14_1Order(t *testing.T) {
	d := draw(11)
	for range 200 {
		m := drawn(d, 300)
		got := trie.New()
		keys := m.keys()
		d.Shuffle(len(keys), func(i, j int) { keys[i], keys[j] = keys[j], keys[i] })
		for _, key := range keys {
			got.Put([]byte(key), []byte(m[key]))
		}
		m.holds(t, "a map put in any order", got)
	}
	m := pairs{}
	for a := range 256 {
		m[string([]byte{byte(a)})] = "a"
		for _, b := range []byte{0, 1, 15, 16, 127, 128, 255} {
			m[string([]byte{byte(a), b})] = "b"
		}
	}
	m.holds(t, "all bytes", m.trie(t))
}

// All may be left early, and gone through again, within itself too.
func TestP14_1AllAgain(t *testing.T) {
	d := draw(12)
	for _, m := range samples(d, 60) {
		got := m.trie(t)
		all := got.All()
		keys := m.keys()
		for stop := range min(len(keys), 12) + 1 {
			var seen []string
			for key := range all {
				if len(seen) == stop {
					break
				}
				seen = append(seen, string(key))
			}
			if !slices.Equal(seen, keys[:stop]) {
				t.Fatalf("All's first keys: got %x, want %x", seen, keys[:stop])
			}
		}
		pairsSeen := 0
		for range all {
			for range all {
				pairsSeen++
				if pairsSeen%7 == 0 {
					break
				}
			}
			if pairsSeen > 500 {
				break
			}
		}
		m.holds(t, "a map gone through", got)
	}
}

// All tells of the map as it was when it was asked for, whatever is done to it since.
func TestP14_1AllWhileChanging(t *testing.T) {
	d := draw(13)
	for range 300 {
		m := drawn(d, 20)
		got := m.trie(t)
		all := got.All()
		var seen []string
		for key, value := range all {
			seen = append(seen, string(key))
			equal(t, "the value", value, []byte(m[string(key)]), digits(key))
			got.Delete(key)
			got.Put([]byte(drawnKey(d)), []byte("new"))
			got.Root()
		}
		if !slices.Equal(seen, m.keys()) {
			t.Fatalf("All's keys while the map is changed: got %x, want %x", seen, m.keys())
		}
		again := 0
		for key, value := range all {
			equal(t, "the key told again", key, []byte(seen[again]))
			equal(t, "the value told again", value, []byte(m[seen[again]]))
			again++
		}
		same(t, "how many are told again", again, len(seen))
	}
}

// What is done to a copy, or to what it is one of, is not done to the other.
func TestP14_1Copy(t *testing.T) {
	d := draw(14)
	for range 60 {
		models := []pairs{drawn(d, 30)}
		maps := []*trie.Trie{models[0].trie(t)}
		for range 40 {
			i := d.IntN(len(maps))
			if d.IntN(4) == 0 && len(maps) < 6 {
				maps = append(maps, maps[i].Copy())
				copied := pairs{}
				for key, value := range models[i] {
					copied[key] = value
				}
				models = append(models, copied)
			}
			if d.IntN(3) == 0 {
				same(t, "Root", maps[i].Root(), toldRoot(models[i]))
			}
			step(t, d, models[i], maps[i])
			for j, m := range models {
				m.holds(t, "one of some copies", maps[j])
			}
		}
		for j, m := range models {
			same(t, "Root", maps[j].Root(), toldRoot(m))
		}
	}
}

// step does the same to a map and to a trie.
func step(t *testing.T, d *rand.Rand, m pairs, got *trie.Trie) {
	t.Helper()
	key := drawnKey(d)
	if keys := m.keys(); len(keys) > 0 && d.IntN(2) == 0 {
		key = pick(d, keys)
	}
	if d.IntN(5) < 3 {
		value := drawnValue(d)
		same(t, "Put", got.Put([]byte(key), []byte(value)), api.OK, digits([]byte(key)))
		m[key] = value
		return
	}
	_, there := m[key]
	same(t, "Delete", got.Delete([]byte(key)), there, digits([]byte(key)))
	delete(m, key)
}

// Copies share what is never changed: each may be used by a goroutine of its own.
func TestP14_1CopiesAtOnce(t *testing.T) {
	m := drawn(draw(15), 200)
	first := m.trie(t)
	root := toldRoot(m)
	var wait sync.WaitGroup
	for i := range 8 {
		copied := first.Copy()
		wait.Go(func() {
			d := draw(uint64(100 + i))
			if copied.Root() != root {
				t.Error("a copy's Root is another one")
			}
			for range 200 {
				key := []byte(drawnKey(d))
				copied.Put(key, []byte{byte(1 + i)})
				copied.Prove(key)
				copied.Delete([]byte(drawnKey(d)))
				copied.Root()
			}
		})
	}
	wait.Wait()
	m.holds(t, "what was copied", first)
	same(t, "Root", first.Root(), root)
}

// A map's ways: it is held against one of Go's, step by step.
func TestP14_5AMap(t *testing.T) {
	d := draw(51)
	for round := range 150 {
		m := pairs{}
		got := trie.New()
		var seen []string
		for range 120 {
			step(t, d, m, got)
			seen = append(seen, drawnKey(d))
			m.holds(t, "a map step by step", got, seen...)
			if d.IntN(8) == 0 {
				same(t, "Root", got.Root(), toldRoot(m), round)
			}
		}
		for _, key := range m.keys() {
			same(t, "Delete", got.Delete([]byte(key)), true, digits([]byte(key)))
			delete(m, key)
			if len(m)%5 == 0 {
				m.holds(t, "a map emptied", got, key)
				same(t, "Root", got.Root(), toldRoot(m), round)
			}
		}
	}
}

// A great map: many keys of 32 bytes, some of which go again.
func TestP14_5GreatMap(t *testing.T) {
	d := draw(52)
	m := pairs{}
	got := trie.New()
	for range 20000 {
		key := string(drawnBytes(d, 32))
		m[key] = drawnValue(d)
		got.Put([]byte(key), []byte(m[key]))
	}
	got.Root()
	for i, key := range m.keys() {
		if i%3 == 0 {
			same(t, "Delete", got.Delete([]byte(key)), true)
			delete(m, key)
		}
	}
	m.holds(t, "a great map", got)
	same(t, "Root", got.Root(), toldRoot(m))
}

package tx_test

import (
	"math"
	"testing"

	"bailiwick/api"
	"bailiwick/tx"
	"bailiwick/word"
)

// checked holds Check.
func checked(t *testing.T, x api.Tx, want api.Errno, of ...any) {
	t.Helper()
	same(t, "Check", tx.Check(x), want, append(of, x)...)
	same(t, "Check, told anew,", toldCheck(x), want, append(of, x)...)
}

// changed is x, changed.
func changed(x api.Tx, change func(x *api.Tx)) api.Tx {
	change(&x)
	return x
}

func TestP15_1CanBe(t *testing.T) {
	for _, x := range samples(11, 500) {
		checked(t, x, api.OK)
	}
	checked(t, api.Tx{}, api.OK)
}

func TestP15_1Type(t *testing.T) {
	for _, kind := range []int{-1, -2, -256, -255, 3, 4, 127, 128, 192, 255, 256, 257, 258, 1 << 32, 1<<32 + 1, math.MinInt, math.MinInt + 1, math.MaxInt} {
		for _, x := range kinds() {
			x.Type = kind
			checked(t, x, api.ErrArg)
		}
	}
}

func TestP15_1Chain(t *testing.T) {
	for _, n := range chains() {
		for _, x := range kinds() {
			x.Chain = n
			checked(t, x, api.OK)
		}
	}
	for _, n := range []uint64{1<<32 + 1, 1<<32 + 2, 1 << 33, 1<<33 + 1, 1 << 63, 1<<63 + 1, 1<<64 - 1} {
		for _, x := range kinds() {
			x.Chain = n
			checked(t, x, api.ErrArg)
		}
	}
	for _, x := range kinds() {
		x.Chain = 0
		want := api.ErrArg
		if x.Type == 0 {
			want = api.OK
		}
		checked(t, x, want)
	}
}

func TestP15_1Tip(t *testing.T) {
	for _, x := range kinds() {
		for k := range uint64(256) {
			y := x
			y.Tip = word.Add(y.Cap, word.Shl(word.Of(k), word.Of(1)))
			want := api.ErrArg
			if x.Type == 2 {
				want = api.OK
			}
			checked(t, y, want)
			y.Tip, y.Cap = y.Cap, y.Tip
			checked(t, y, want)
			y.Tip = y.Cap
			checked(t, y, api.OK)
		}
	}
}

func TestP15_1Access(t *testing.T) {
	for _, l := range [][]api.Access{reach(0), reach(1), reach(0, 2), {{}}, {{Keys: make([]api.Hash, 1)}}} {
		for _, x := range kinds() {
			x.Access = l
			want := api.OK
			if x.Type == 0 {
				want = api.ErrArg
			}
			checked(t, x, want)
		}
	}
	for _, x := range kinds() {
		x.Access = []api.Access{}
		checked(t, x, api.OK)
	}
}

func TestP15_1Create(t *testing.T) {
	for _, x := range kinds() {
		for i := range x.To {
			y := creating(x)
			y.To[i] = byte(1 << (i % 8))
			checked(t, y, api.ErrArg)
			y.Create = false
			checked(t, y, api.OK)
		}
	}
}

func TestP15_1V(t *testing.T) {
	for _, v := range []int{-1, -2, 2, 3, 27, 28, 35, 36, 255, 256, 257, -255, -256, 1 << 32, 1<<32 + 1, math.MinInt, math.MinInt + 1, math.MaxInt} {
		for _, x := range kinds() {
			x.Sig.V = v
			checked(t, x, api.ErrArg)
		}
	}
	for _, x := range kinds() {
		for _, a := range words() {
			x.Sig = api.Sig{R: a, S: word.Not(a), V: 1 - x.Sig.V}
			checked(t, x, api.OK)
		}
	}
}

func TestP15_1Data(t *testing.T) {
	for _, x := range kinds() {
		for _, size := range []int{1<<17 - 1, 1 << 17} {
			x.Data = make([]byte, size)
			checked(t, x, api.OK, size)
		}
		for _, size := range []int{1<<17 + 1, 1 << 18, 1 << 20, 1<<20 + 1} {
			x.Data = make([]byte, size)
			checked(t, x, api.ErrLong, size)
		}
	}
}

// long are access lists, each of 1025 addresses and keys in all; one of each one's less is short enough.
func long() [][]api.Access {
	return [][]api.Access{
		reach(make([]int, 1025)...),
		reach(1024),
		reach(append(make([]int, 1023), 1)...),
		reach(append([]int{1}, make([]int, 1023)...)...),
		reach(511, 512),
		reach(0, 1023, 0)[:2],
		reach(1023, 0),
		reach(100, 200, 300, 421),
	}
}

func TestP15_1Places(t *testing.T) {
	for _, x := range []api.Tx{listed(), capped(), creating(listed())} {
		for i, l := range long() {
			x.Access = l
			checked(t, x, api.ErrLong, i)
			last := &l[len(l)-1]
			if len(last.Keys) > 0 {
				last.Keys = last.Keys[1:]
			} else {
				x.Access = l[:len(l)-1]
			}
			checked(t, x, api.OK, i)
		}
		// The same keys may be there again and again: so that they are as many as a small number can't tell.
		many := make([]api.Hash, 1<<16)
		for _, most := range []int{2, 512, 1023, 1024, 1025, 2048} {
			x.Access = make([]api.Access, most)
			for i := range x.Access {
				x.Access[i].Keys = many
			}
			same(t, "Check", tx.Check(x), api.ErrLong, most)
		}
	}
}

// ErrArg is told ahead of ErrLong.
func TestP15_1First(t *testing.T) {
	for _, x := range []api.Tx{plain(), listed(), capped()} {
		x.Data = make([]byte, 1<<17+1)
		for i, change := range faults() {
			if y := changed(x, change); toldCheck(y) == api.ErrArg {
				checked(t, y, api.ErrArg, i)
			}
		}
		if x.Type > 0 {
			x.Data, x.Access = nil, long()[0]
			for i, change := range faults() {
				if y := changed(x, change); toldCheck(y) == api.ErrArg {
					checked(t, y, api.ErrArg, i)
				}
			}
		}
	}
	x := plain()
	x.Access = long()[0]
	checked(t, x, api.ErrArg)
}

// faults each make a transaction one that can't be, of some type at least.
func faults() []func(x *api.Tx) {
	return []func(x *api.Tx){
		func(x *api.Tx) { x.Type = 3 },
		func(x *api.Tx) { x.Type = -1 },
		func(x *api.Tx) { x.Chain = 1<<32 + 1 },
		func(x *api.Tx) { x.Chain = 0 },
		func(x *api.Tx) { x.Tip[3]++ },
		func(x *api.Tx) { x.Cap[0]++ },
		func(x *api.Tx) { x.Access = reach(1) },
		func(x *api.Tx) { x.Create, x.To = true, who(77) },
		func(x *api.Tx) { x.Sig.V = 2 },
		func(x *api.Tx) { x.Sig.V = -1 },
		func(x *api.Tx) { x.Data = make([]byte, 1<<17+1) },
		func(x *api.Tx) { x.Access = long()[1] },
		func(x *api.Tx) { x.Access = long()[2] },
	}
}

// Each other call answers Check's error first, whatever else it is given, and nothing beside it.
func TestP15_1EachCall(t *testing.T) {
	found := 0
	for _, x := range samples(12, 40) {
		for i, change := range faults() {
			y := changed(x, change)
			e := tx.Check(y)
			same(t, "Check", e, toldCheck(y), i)
			if e == api.OK {
				continue
			}
			found++
			answersError(t, y, e)
			y.Sig.R, y.Sig.S = api.Word{}, most()
			answersError(t, y, e)
		}
	}
	if found < 300 {
		t.Fatalf("%d transactions are refused", found)
	}
}

// answersError holds all calls of x to an error.
func answersError(t *testing.T, x api.Tx, want api.Errno) {
	t.Helper()
	b, e := tx.Encode(x)
	same(t, "Encode's error", e, want, x)
	equal(t, "Encode", b, nil, x)
	h, e := tx.Hash(x)
	same(t, "Hash's error", e, want, x)
	same(t, "Hash", h, api.Hash{}, x)
	h, e = tx.Signed(x)
	same(t, "Signed's error", e, want, x)
	same(t, "Signed", h, api.Hash{}, x)
	for _, key := range []api.Word{word.Of(1), {}, order()} {
		y, e := tx.Sign(x, key)
		same(t, "Sign's error", e, want, x)
		alike(t, "Sign", y, api.Tx{}, x)
	}
	a, e := tx.Sender(x)
	same(t, "Sender's error", e, want, x)
	same(t, "Sender", a, api.Address{}, x)
	for _, base := range []api.Word{{}, word.Of(7), x.Cap, most()} {
		p, pays := tx.Price(x, base)
		same(t, "whether Price", pays, false, x)
		same(t, "Price", p, api.Word{}, x)
	}
	n, e := tx.Intrinsic(x)
	same(t, "Intrinsic's error", e, want, x)
	same(t, "Intrinsic", n, 0, x)
}

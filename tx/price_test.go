package tx_test

import (
	"math/big"
	"testing"

	"bailiwick/api"
	"bailiwick/tx"
	"bailiwick/word"
)

// priced holds Price to what is told anew, of an x that can be.
func priced(t *testing.T, x api.Tx, base api.Word) {
	t.Helper()
	want := toBig(x.Cap)
	if sum := new(big.Int).Add(toBig(x.Tip), toBig(base)); x.Type == 2 && sum.Cmp(want) < 0 {
		want = sum
	}
	is := toBig(x.Cap).Cmp(toBig(base)) >= 0 && toBig(x.Tip).Cmp(toBig(x.Cap)) <= 0
	if !is {
		want = new(big.Int)
	}
	got, pays := tx.Price(x, base)
	same(t, "whether Price", pays, is, base, x)
	same(t, "Price", got, fromBig(want), base, x)
}

func TestP15_4Price(t *testing.T) {
	d := draw(51)
	for _, x := range samples(52, 2000) {
		for _, base := range []api.Word{{}, x.Cap, x.Tip, word.Add(x.Cap, word.Of(1)), word.Sub(x.Cap, word.Of(1)), word.Sub(x.Cap, x.Tip), most(), drawnWord(d), pick(d, words()...)} {
			priced(t, x, base)
		}
	}
}

// All of three numbers of which there is something to say; sums beyond all words are among them.
func TestP15_4PriceEnds(t *testing.T) {
	some := []api.Word{{}, word.Of(1), word.Of(2), word.Of(3), {1<<64 - 1}, {0, 1}, {1, 1}, {0, 0, 0, 1 << 63}, {1, 0, 0, 1 << 63}, {1<<64 - 1, 1<<64 - 1, 1<<64 - 1, 1<<63 - 1}, most(), word.Sub(most(), word.Of(1)), word.Sub(most(), word.Of(2))}
	for _, x := range []api.Tx{plain(), chained(), listed(), capped()} {
		for _, tip := range some {
			for _, top := range some {
				for _, base := range some {
					x.Tip, x.Cap = tip, top
					if x.Type < 2 {
						x.Tip = top
					}
					priced(t, x, base)
				}
			}
		}
	}
}

func TestP15_4PriceAnswers(t *testing.T) {
	for _, x := range []struct {
		kind           int
		tip, top, base uint64
		price          uint64
		pays           bool
	}{
		{2, 3, 10, 0, 3, true},
		{2, 3, 10, 6, 9, true},
		{2, 3, 10, 7, 10, true},
		{2, 3, 10, 8, 10, true},
		{2, 3, 10, 10, 10, true},
		{2, 3, 10, 11, 0, false},
		{2, 0, 10, 7, 7, true},
		{2, 10, 10, 0, 10, true},
		{2, 11, 10, 0, 0, false},
		{1, 10, 10, 7, 10, true},
		{0, 10, 10, 0, 10, true},
		{0, 10, 10, 11, 0, false},
	} {
		y := api.Tx{Type: x.kind, Chain: 1, Tip: word.Of(x.tip), Cap: word.Of(x.top)}
		price, pays := tx.Price(y, word.Of(x.base))
		same(t, "whether Price", pays, x.pays, x)
		same(t, "Price", price, word.Of(x.price), x)
	}
}

// costs holds Intrinsic to what is told anew.
func costs(t *testing.T, x api.Tx) {
	t.Helper()
	want := uint64(21000)
	if x.Create {
		want = 53000
	}
	for _, b := range x.Data {
		want += 4
		if b != 0 {
			want += 12
		}
	}
	for _, a := range x.Access {
		want += 2400
		for range a.Keys {
			want += 1900
		}
	}
	got, e := tx.Intrinsic(x)
	same(t, "Intrinsic's error", e, api.OK, x)
	same(t, "Intrinsic", got, want, x)
}

func TestP15_4Intrinsic(t *testing.T) {
	for _, x := range samples(53, 3000) {
		costs(t, x)
	}
	for _, x := range kinds() {
		for b := range 256 {
			x.Data = []byte{byte(b)}
			costs(t, x)
		}
		for _, b := range []byte{0, 1} {
			x.Data = make([]byte, 1<<17)
			for i := range x.Data {
				x.Data[i] = b
			}
			costs(t, x)
		}
		if x.Type > 0 {
			x.Access = reach(1, 2, 3, 0, 0)
			costs(t, x)
			x.Access = reach(make([]int, 1024)...)
			costs(t, x)
			x.Access = reach(1023)
			costs(t, x)
		}
	}
}

// The chapter's example, and the greatest that there is.
func TestP15_4IntrinsicAnswers(t *testing.T) {
	full := capped()
	full.Data, full.Access = counted(1<<17), reach(make([]int, 1024)...)
	for _, x := range []struct {
		tx   api.Tx
		want uint64
	}{
		{api.Tx{}, 21000},
		{api.Tx{Create: true}, 53000},
		{api.Tx{Data: []byte{0, 0, 1, 0, 255}}, 21044},
		{listed(), 21000 + 8 + 48 + 3*2400 + 3*1900},
		{creating(full), 53000 + 16<<17 + 1024*2400},
	} {
		got, e := tx.Intrinsic(x.tx)
		same(t, "Intrinsic's error", e, api.OK, x.tx)
		same(t, "Intrinsic", got, x.want, x.tx)
	}
}

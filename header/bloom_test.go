package header_test

import (
	"math/big"
	"testing"

	"bailiwick/api"
	"bailiwick/header"
)

func TestP16_2Bloom(t *testing.T) {
	for _, logs := range drawnList(21, 2000, drawnLogs) {
		same(t, "Bloom", header.Bloom(logs), bloomOf(toldBloom(logs)), logs)
	}
	same(t, "Bloom", header.Bloom(nil), [256]byte{})
	same(t, "Bloom", header.Bloom([]api.Log{}), [256]byte{})
}

// Each bit is in a place of its own: the last byte's lowest one is the 0th.
func TestP16_2Bits(t *testing.T) {
	seen := map[int]bool{}
	for n := 0; len(seen) < 2048; n++ {
		topic := hashed(n)
		bloom := header.Bloom([]api.Log{{Topics: []api.Hash{topic}}, {Address: who(n)}})
		want := [256]byte{}
		nobody, a := api.Address{}, who(n)
		for _, b := range [][]byte{nobody[:], topic[:], a[:]} {
			for _, bit := range toldBits(b) {
				seen[bit] = true
				want[255-bit/8] |= []byte{1, 2, 4, 8, 16, 32, 64, 128}[bit%8]
			}
		}
		same(t, "Bloom", bloom, want, n)
	}
}

// What a log tells beside its address and topics is not in it.
func TestP16_2NoData(t *testing.T) {
	for _, logs := range drawnList(22, 100, drawnLogs) {
		want := header.Bloom(logs)
		for i := range logs {
			logs[i].Data = counted(i + 50)
		}
		same(t, "Bloom", header.Bloom(logs), want, logs)
	}
}

// Logs of any number, and with any number of topics.
func TestP16_2Many(t *testing.T) {
	d := draw(23)
	var logs []api.Log
	for range 100 {
		logs = append(logs, drawnLog(d, 10))
	}
	for i := range 50 {
		logs[7].Topics = append(logs[7].Topics, hashed(i))
	}
	same(t, "Bloom", header.Bloom(logs), bloomOf(toldBloom(logs)))
	many := make([]api.Log, 5000)
	same(t, "Bloom", header.Bloom(many), header.Bloom(many[:1]))
	many[4999].Address = who(1)
	same(t, "Bloom", header.Bloom(many), header.Bloom([]api.Log{{}, {Address: who(1)}}))
}

func TestP16_2Has(t *testing.T) {
	d := draw(24)
	found := 0
	for range 300 {
		logs := drawnLogs(d)
		bloom := header.Bloom(logs)
		fill(d, bloom[:d.IntN(257)])
		for range 30 {
			b := drawnBytes(d, pick(d, 0, 1, 8, 20, 32, 200))
			if len(logs) > 0 && d.IntN(2) > 0 {
				b = logs[d.IntN(len(logs))].Address[:]
			}
			want := toldHas(bloom, b)
			if want {
				found++
			}
			same(t, "Has", header.Has(bloom, b), want, bloom, b)
		}
	}
	if found < 1000 || found > 8000 {
		t.Fatalf("%d are there", found)
	}
}

// All three bits must be there; others play no part.
func TestP16_2HasBits(t *testing.T) {
	all := new(big.Int).Sub(new(big.Int).Lsh(big.NewInt(1), 2048), big.NewInt(1))
	for n := range 3000 {
		b := counted(n % 150)
		if len(b) > 1 {
			b[0], b[1] = byte(n), byte(n>>8)
		}
		own := new(big.Int)
		for _, bit := range toldBits(b) {
			own.SetBit(own, bit, 1)
			same(t, "Has without a bit", header.Has(bloomOf(new(big.Int).SetBit(all, bit, 0)), b), false, b, bit)
		}
		same(t, "Has of its bits", header.Has(bloomOf(own), b), true, b)
		same(t, "Has of all bits", header.Has(bloomOf(all), b), true, b)
		same(t, "Has of no bits", header.Has([256]byte{}, b), false, b)
		for _, bit := range toldBits(b) {
			same(t, "Has without a bit, and any other one", header.Has(bloomOf(new(big.Int).SetBit(own, bit, 0)), b), false, b, bit)
		}
	}
	same(t, "Has of nil", header.Has(bloomOf(all), nil), true)
	same(t, "Has of nil", header.Has([256]byte{}, nil), false)
}

// Two of the bits may be the same one.
func TestP16_2HasTwice(t *testing.T) {
	found := 0
	for n := range 20_000 {
		a := who(n)
		bits := toldBits(a[:])
		if bits[0] != bits[1] && bits[1] != bits[2] && bits[0] != bits[2] {
			continue
		}
		found++
		bloom := header.Bloom([]api.Log{{Address: a}})
		same(t, "Bloom", bloom, bloomOf(toldBloom([]api.Log{{Address: a}})), a)
		same(t, "Has", header.Has(bloom, a[:]), true, a)
	}
	if found < 5 {
		t.Fatalf("%d have a bit twice", found)
	}
}

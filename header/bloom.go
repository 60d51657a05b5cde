package header

import (
	"bailiwick/api"
	"bailiwick/keccak"
)

// Bloom is that of all that logs tell by address and topics.
func Bloom(logs []api.Log) [256]byte {
	var out [256]byte
	for _, l := range logs {
		add(&out, l.Address[:])
		for _, topic := range l.Topics {
			add(&out, topic[:])
		}
	}
	return out
}

// add puts b's bits into bloom.
func add(bloom *[256]byte, b []byte) {
	for _, n := range bits(b) {
		at, bit := place(n)
		bloom[at] |= bit
	}
}

// Has tells whether b may be in bloom: surely not, if one of its bits is missing.
func Has(bloom [256]byte, b []byte) bool {
	for _, n := range bits(b) {
		at, bit := place(n)
		if bloom[at]&bit == 0 {
			return false
		}
	}
	return true
}

// bits are the three that stand for b, two of which may be the same.
func bits(b []byte) [3]int {
	k := keccak.Sum(b)
	var out [3]int
	for i := range out {
		out[i] = (int(k[2*i])<<8 + int(k[2*i+1])) % 2048
	}
	return out
}

// place is in which byte the nth bit lies, and that bit of it.
func place(n int) (int, byte) {
	return 255 - n/8, 1 << (n % 8)
}

package nibble

import "bailiwick/api"

// What a path's first nibble is the sum of.
const (
	odd    = 1 // of an odd number of nibbles behind it; of an even one a nibble 0 fills its byte
	ending = 2 // of a leaf
)

// Pack is n as a path, a leaf's or another one.
func Pack(n []byte, leaf bool) ([]byte, api.Errno) {
	if !fit(n) {
		return nil, api.ErrForm
	}
	var first byte
	if leaf {
		first = ending
	}
	out := make([]byte, 0, 1+len(n)/2)
	if len(n)%2 == 0 {
		return join(append(out, first<<bits), n), api.OK
	}
	return join(append(out, (first+odd)<<bits|n[0]), n[1:]), api.OK
}

// Unpack is the nibbles of which b is the path, and whether it is a leaf's.
func Unpack(b []byte) ([]byte, bool, api.Errno) {
	n := Of(b)
	if len(n) == 0 || n[0] > ending+odd {
		return nil, false, api.ErrForm
	}
	leaf := n[0]&ending != 0
	switch {
	case n[0]&odd != 0:
		return n[1:], leaf, api.OK
	case n[1] != 0:
		return nil, false, api.ErrForm
	}
	return n[2:], leaf, api.OK
}

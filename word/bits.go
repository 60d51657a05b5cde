package word

import (
	"math"

	"bailiwick/api"
)

// SignExtend is the lowest k and 1 bytes of a, and all higher bits as the highest one of these; a, if k is above 30.
func SignExtend(k, a api.Word) api.Word {
	n, small := Small(k)
	if !small || n > 30 {
		return a
	}
	above := Of(8 * (31 - n))
	return Sar(above, Shl(above, a))
}

// Not is a with all bits turned about.
func Not(a api.Word) api.Word {
	for i := range a {
		a[i] = ^a[i]
	}
	return a
}

// Byte is the byte of a at k, 0 the highest; 0, if k is above 31.
func Byte(k, a api.Word) api.Word {
	n, small := Small(k)
	if !small || n > 31 {
		return api.Word{}
	}
	return Of(uint64(Bytes(a)[n]))
}

// Shl is a times 2 to the power k.
func Shl(k, a api.Word) api.Word {
	whole, some := steps(k)
	part := func(i int) uint64 {
		if i < 0 {
			return 0
		}
		return a[i]
	}
	var out api.Word
	for i := range out {
		out[i] = part(i-whole)<<some | part(i-whole-1)>>(64-some)
	}
	return out
}

// Shr is a by 2 to the power k, without a fraction.
func Shr(k, a api.Word) api.Word {
	return shiftDown(k, a, 0)
}

// Sar is a, as a signed one, by 2 to the power k, rounded down.
func Sar(k, a api.Word) api.Word {
	if isNegative(a) {
		return shiftDown(k, a, math.MaxUint64)
	}
	return shiftDown(k, a, 0)
}

// shiftDown shifts a down by k; above its end all parts are as above.
func shiftDown(k, a api.Word, above uint64) api.Word {
	whole, some := steps(k)
	part := func(i int) uint64 {
		if i < len(a) {
			return a[i]
		}
		return above
	}
	var out api.Word
	for i := range out {
		out[i] = part(i+whole)>>some | part(i+whole+1)<<(64-some)
	}
	return out
}

// steps is a shift as whole parts and some bits; beyond 256 bits there is nothing left to shift.
func steps(k api.Word) (int, int) {
	n, small := Small(k)
	if !small || n > 256 {
		n = 256
	}
	return int(n / 64), int(n % 64)
}

// Bytes is the 32 bytes of a, the highest first.
func Bytes(a api.Word) [32]byte {
	var out [32]byte
	for i := range out {
		place := len(out) - 1 - i
		out[i] = byte(a[place/8] >> (place % 8 * 8))
	}
	return out
}

// From is the number of b, the highest byte first; of more than 32 bytes that of the last 32.
func From(b []byte) api.Word {
	b = b[max(0, len(b)-32):]
	var out api.Word
	for i, x := range b {
		place := len(b) - 1 - i
		out[place/8] |= uint64(x) << (place % 8 * 8)
	}
	return out
}

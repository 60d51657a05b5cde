package tx_test

import (
	"testing"

	"bailiwick/api"
)

// encoded holds Encode to what is told anew.
func encoded(t *testing.T, x api.Tx) {
	t.Helper()
	equal(t, "Encode", bytesOf(t, x), []byte(toldBytes(x)), x)
}

func TestP15_2Encode(t *testing.T) {
	for _, x := range samples(21, 3000) {
		encoded(t, x)
	}
}

// Each number at all ends that it may have.
func TestP15_2EncodeNumbers(t *testing.T) {
	for _, x := range kinds() {
		for _, n := range ends() {
			encoded(t, changed(x, func(x *api.Tx) { x.Nonce = n }))
			encoded(t, changed(x, func(x *api.Tx) { x.Gas = n }))
		}
		for _, a := range words() {
			encoded(t, changed(x, func(x *api.Tx) { x.Tip, x.Cap = a, a }))
			encoded(t, changed(x, func(x *api.Tx) { x.Value = a }))
			encoded(t, changed(x, func(x *api.Tx) { x.Sig.R = a }))
			encoded(t, changed(x, func(x *api.Tx) { x.Sig.S = a }))
			if x.Type == 2 {
				encoded(t, changed(x, func(x *api.Tx) { x.Tip = a }))
				encoded(t, changed(x, func(x *api.Tx) { x.Cap = a }))
			}
		}
		for _, n := range chains() {
			for v := range 2 {
				encoded(t, changed(x, func(x *api.Tx) { x.Chain, x.Sig.V = n, v }))
			}
		}
		encoded(t, changed(x, func(x *api.Tx) { x.Sig.V = 1 - x.Sig.V }))
	}
}

// Data and access lists of all sizes at which the bytes' heads change, and at the limits.
func TestP15_2EncodeSizes(t *testing.T) {
	for _, x := range kinds() {
		for _, size := range []int{1, 2, 54, 55, 56, 57, 255, 256, 257, 65535, 65536, 65537, 1<<17 - 1, 1 << 17} {
			x.Data = counted(size)
			encoded(t, x)
		}
		for b := range 256 {
			x.Data = []byte{byte(b)}
			encoded(t, x)
		}
		if x.Type == 0 {
			continue
		}
		for n := range 12 {
			x.Access = reach(make([]int, n)...)
			encoded(t, x)
			x.Access = reach(n, 1, 0, n)
			encoded(t, x)
		}
	}
	x := capped()
	x.Data = counted(1 << 17)
	for _, l := range long() {
		last := &l[len(l)-1]
		if len(last.Keys) > 0 {
			last.Keys = last.Keys[1:]
			x.Access = l
			encoded(t, x)
		}
	}
	x.Access = reach(make([]int, 1024)...)
	encoded(t, x)
}

// Whom it goes to has 20 bytes, noughts too; none has none.
func TestP15_2EncodeTo(t *testing.T) {
	for _, x := range kinds() {
		x.Create, x.To = false, api.Address{}
		encoded(t, x)
		nobody := bytesOf(t, x)
		x.Create = true
		encoded(t, x)
		same(t, "how many bytes are less", len(nobody)-len(bytesOf(t, x)) >= 20, true, x)
		for i := range x.To {
			x.Create, x.To = false, api.Address{}
			x.To[i] = 1
			encoded(t, x)
		}
	}
}

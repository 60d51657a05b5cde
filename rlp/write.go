package rlp

import (
	"slices"

	"bailiwick/api"
	"bailiwick/word"
)

// What a head begins with.
const (
	textHead = 0x80 // of bytes, with how many they are; what is less is a byte without a head
	listHead = 0xc0 // of a list, with how many bytes its items have
	maxShort = 55   // the greatest number that stands in a head's first byte; what is added above is how many bytes the number has
)

// head is what stands ahead of x's bytes, or its items', which are so many.
func head(x api.Item, size int) []byte {
	first := byte(textHead)
	switch {
	case x.List:
		first = listHead
	case size == 1 && x.B[0] < textHead:
		return nil
	}
	if size <= maxShort {
		return []byte{first + byte(size)}
	}
	number := Number(word.Of(uint64(size))).B
	return append([]byte{first + maxShort + byte(len(number))}, number...)
}

// lay writes x's bytes at the end of out, and tells what is left ahead of them.
// From the end on, as a list's head is known when its items are written.
func lay(out []byte, x api.Item) []byte {
	rest := out
	if x.List {
		for _, y := range slices.Backward(x.L) {
			rest = lay(rest, y)
		}
	} else {
		rest = layBytes(rest, x.B)
	}
	return layBytes(rest, head(x, len(out)-len(rest)))
}

func layBytes(out, b []byte) []byte {
	rest := out[:len(out)-len(b)]
	copy(out[len(rest):], b)
	return rest
}

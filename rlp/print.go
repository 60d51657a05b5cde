package rlp

import (
	"strings"

	"bailiwick/api"
)

// Print is x as a text.
func Print(x api.Item) (string, api.Errno) {
	if _, e := Size(x); e != api.OK {
		return "", e
	}
	var out strings.Builder
	printTo(&out, x)
	return out.String(), api.OK
}

func printTo(out *strings.Builder, x api.Item) {
	switch {
	case x.List:
		printList(out, x.L)
	case len(x.B) == 0:
		out.WriteString(`""`)
	default:
		printBytes(out, x.B)
	}
}

func printList(out *strings.Builder, l []api.Item) {
	out.WriteByte('[')
	for i, x := range l {
		if i > 0 {
			out.WriteByte(',')
		}
		printTo(out, x)
	}
	out.WriteByte(']')
}

func printBytes(out *strings.Builder, b []byte) {
	const digits = "0123456789abcdef"
	for _, x := range b {
		out.WriteByte(digits[x>>4])
		out.WriteByte(digits[x&15])
	}
}

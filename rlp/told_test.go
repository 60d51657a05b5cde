package rlp_test

import (
	"encoding/hex"
	"math/big"
	"slices"
	"strings"

	"bailiwick/api"
)

// What follows tells the chapter's words anew: bytes by putting lists together, items by going once through the bytes with the lists that are open, and no limit in what tells bytes.

// toldHead is what stands ahead of so many bytes: 80 and how many, or c0 and how many; or b7, or f7, and that number's bytes.
func toldHead(first byte, size int) []byte {
	if size <= 55 {
		return []byte{first + byte(size)}
	}
	number := big.NewInt(int64(size)).Bytes()
	return append([]byte{first + 0x37 + byte(len(number))}, number...)
}

func toldBytes(x api.Item) []byte {
	if x.List {
		var all [][]byte
		for _, y := range x.L {
			all = append(all, toldBytes(y))
		}
		b := slices.Concat(all...)
		return append(toldHead(0xc0, len(b)), b...)
	}
	if len(x.B) == 1 && x.B[0] < 0x80 {
		return []byte{x.B[0]}
	}
	return append(toldHead(0x80, len(x.B)), x.B...)
}

func toldPrint(x api.Item) string {
	if !x.List {
		if len(x.B) == 0 {
			return `""`
		}
		return hex.EncodeToString(x.B)
	}
	all := make([]string, len(x.L))
	for i, y := range x.L {
		all[i] = toldPrint(y)
	}
	return "[" + strings.Join(all, ",") + "]"
}

// toldItems is how many items x has in all.
func toldItems(x api.Item) int {
	out := 1
	if x.List {
		for _, y := range x.L {
			out += toldItems(y)
		}
	}
	return out
}

// toldDeep is in how many lists an item of x lies at most, a list counting itself.
func toldDeep(x api.Item) int {
	if !x.List {
		return 0
	}
	out := 0
	for _, y := range x.L {
		out = max(out, toldDeep(y))
	}
	return out + 1
}

// toldCan tells whether x can be.
func toldCan(x api.Item) bool {
	return toldItems(x) <= 65536 && toldDeep(x) <= 64 && len(toldBytes(x)) <= 1<<20
}

// open is a list whose end did not come yet.
type open struct {
	item api.Item
	end  int
}

// toldDecode goes from byte to byte.
func toldDecode(b []byte) (api.Item, int, api.Errno) {
	var lists []open
	at, items := 0, 0
	for {
		end, short := len(b), api.ErrShort
		if len(lists) > 0 {
			end, short = lists[len(lists)-1].end, api.ErrForm
		}
		if at == end {
			return api.Item{}, 0, short
		}
		items++
		x, from, to, e := toldNext(b[:end], at, short)
		if items > 65536 || x.List && len(lists) == 64 {
			e = api.ErrLong
		}
		if e != api.OK {
			return api.Item{}, 0, e
		}
		if at = to; x.List {
			lists = append(lists, open{x, to})
			at = from
		} else if x.B = b[from:to]; len(lists) == 0 {
			return x, at, api.OK
		} else {
			lists[len(lists)-1].add(x)
		}
		for len(lists) > 0 && at == lists[len(lists)-1].end {
			last := lists[len(lists)-1]
			lists = lists[:len(lists)-1]
			if len(lists) == 0 {
				return last.item, at, api.OK
			}
			lists[len(lists)-1].add(last.item)
		}
	}
}

func (o *open) add(x api.Item) {
	o.item.L = append(o.item.L, x)
}

// toldNext tells whether a list begins there, from where to where its bytes lie, and what is wrong with them.
func toldNext(b []byte, at int, short api.Errno) (api.Item, int, int, api.Errno) {
	first := int(b[at])
	x := api.Item{List: first >= 0xc0}
	if first < 0x80 {
		return x, at, at + 1, api.OK
	}
	from, size := at+1, big.NewInt(int64(first-0x80))
	if x.List {
		size.SetInt64(int64(first - 0xc0))
	}
	if size.Int64() > 55 {
		digits := b[from:]
		if int64(len(digits)) < size.Int64()-55 {
			return x, 0, 0, short
		}
		digits = digits[:size.Int64()-55]
		from += len(digits)
		size.SetBytes(digits)
		if digits[0] == 0 {
			return x, 0, 0, api.ErrForm
		}
		if size.Cmp(big.NewInt(1<<20)) > 0 {
			return x, 0, 0, api.ErrLong
		}
		if size.Cmp(big.NewInt(55)) <= 0 {
			return x, 0, 0, api.ErrForm
		}
	}
	to := from + int(size.Int64())
	if to-at > 1<<20 {
		return x, 0, 0, api.ErrLong
	}
	if to > len(b) {
		return x, 0, 0, short
	}
	if !x.List && to-from == 1 && b[from] < 0x80 {
		return x, 0, 0, api.ErrForm
	}
	return x, from, to, api.OK
}

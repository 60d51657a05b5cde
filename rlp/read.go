package rlp

import (
	"bailiwick/api"
	"bailiwick/word"
)

// read is the item that b begins with, which lies in so many lists, and how many bytes it has.
// What is wrong with it is told through e; what else is answered then plays no part.
func (c *counter) read(b []byte, lists int, e *api.Errno) (api.Item, int) {
	if len(b) == 0 {
		*e = api.ErrShort
		return api.Item{}, 0
	}
	list := b[0] >= listHead
	lists = c.enter(list, lists)
	ahead, size := readHead(b, e)
	if *e != api.OK {
		return api.Item{}, 0
	}
	end := ahead + size
	if list {
		return api.Item{List: true, L: c.readAll(b[ahead:end], lists, e)}, end
	}
	return Text(b[ahead:end]), end
}

// readAll is the items of which b is the bytes, one behind the other.
func (c *counter) readAll(b []byte, lists int, e *api.Errno) []api.Item {
	var out []api.Item
	for len(b) > 0 && *e == api.OK {
		x, size := c.read(b, lists, e)
		out = append(out, x)
		b = b[size:]
	}
	if *e == api.ErrShort {
		*e = api.ErrForm // more bytes would not help: the list's own head says that it ends here
	}
	return out
}

// readHead tells how many bytes the head has that b begins with, and how many stand behind it, which are all there if e is OK.
func readHead(b []byte, e *api.Errno) (int, int) {
	if b[0] < textHead {
		return 0, 1
	}
	ahead, size := 1, int(b[0]%(listHead-textHead))
	if size > maxShort {
		digits := size - maxShort
		ahead, size = 1+digits, readSize(b[1:], digits, e)
	}
	switch {
	case *e != api.OK:
	case ahead+size > api.MaxRLP:
		*e = api.ErrLong
	case ahead+size > len(b):
		*e = api.ErrShort
	case b[0] == textHead+1 && b[1] < textHead:
		*e = api.ErrForm
	}
	return ahead, size
}

// readSize is the number of the first so many bytes, at most eight, of b.
func readSize(b []byte, digits int, e *api.Errno) int {
	if digits > len(b) {
		*e = api.ErrShort
		return 0
	}
	size, _ := word.Small(word.From(b[:digits]))
	switch {
	case b[0] == 0:
		*e = api.ErrForm
	case size > api.MaxRLP:
		*e = api.ErrLong
	case size <= maxShort:
		*e = api.ErrForm
	}
	return int(size)
}

package rlp

import "bailiwick/api"

// counter counts the items of one, and gives up when they are too many, lie in too many lists, or have too many bytes.
type counter struct {
	items int
}

// counted does work with a counter of its own, and tells through e why that gave up, if it did.
func counted(e *api.Errno, work func(c *counter)) {
	defer func() {
		if why := recover(); why != nil {
			*e = why.(api.Errno)
		}
	}()
	work(&counter{})
}

// enter counts an item that lies in so many lists, and tells how many these are with itself, if it is one.
func (c *counter) enter(list bool, lists int) int {
	c.items++
	if list {
		lists++
	}
	if c.items > api.MaxItems || lists > api.MaxDeep {
		panic(api.ErrLong)
	}
	return lists
}

// size is how many bytes x has, which lies in so many lists.
func (c *counter) size(x api.Item, lists int) int {
	lists = c.enter(x.List, lists)
	size := len(x.B)
	if x.List {
		size = 0
		for _, y := range x.L {
			size = fit(size + c.size(y, lists))
		}
	}
	return fit(len(head(x, size)) + size)
}

// fit is size, which gives up if no item has so many bytes.
func fit(size int) int {
	if size > api.MaxRLP {
		panic(api.ErrLong)
	}
	return size
}

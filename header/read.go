package header

import (
	"bailiwick/api"
	"bailiwick/rlp"
	"bailiwick/word"
)

// reader reads items one by one, and notes whether one was bad or is missing; what it answers then plays no part.
type reader struct {
	items []api.Item
	bad   bool
}

// want notes that something is bad, unless it is as it should be.
func (r *reader) want(is bool) {
	r.bad = r.bad || !is
}

func (r *reader) next() api.Item {
	if len(r.items) == 0 {
		r.bad = true
		return api.Item{}
	}
	x := r.items[0]
	r.items = r.items[1:]
	return x
}

func (r *reader) bytes() []byte {
	x := r.next()
	r.want(!x.List)
	return x.B
}

// into reads just as many bytes as b has.
func (r *reader) into(b []byte) {
	from := r.bytes()
	r.want(len(from) == len(b))
	copy(b, from)
}

func (r *reader) number() api.Word {
	a, e := rlp.ToNumber(r.next())
	r.want(e == api.OK)
	return a
}

// small is a number below 2^64.
func (r *reader) small() uint64 {
	n, fits := word.Small(r.number())
	r.want(fits)
	return n
}

// head reads all of h.
func (r *reader) head(h *api.Header) {
	for _, b := range ahead(h) {
		r.into(b)
	}
	for _, n := range numbers(h) {
		*n = r.small()
	}
	h.Extra = r.bytes()
	for _, b := range behind(h) {
		r.into(b)
	}
	h.BaseFee = r.number()
}

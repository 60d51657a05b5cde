package tx_test

import (
	"math/big"
	"strings"

	"bailiwick/api"
	"bailiwick/rlp"
	"bailiwick/word"
)

// The chapter's words told anew: with bytes as texts, and numbers of any size.

// toldText is the bytes of an item of b, toldList of a list of items, of which there are the bytes.
func toldText(b string) string {
	if len(b) == 1 && b[0] < 0x80 {
		return b
	}
	return toldHead(0x80, len(b)) + b
}

func toldList(l ...string) string {
	all := strings.Join(l, "")
	return toldHead(0xc0, len(all)) + all
}

func toldHead(first byte, size int) string {
	switch {
	case size <= 55:
		return string([]byte{first + byte(size)})
	case size < 1<<8:
		return string([]byte{first + 56, byte(size)})
	case size < 1<<16:
		return string([]byte{first + 57, byte(size >> 8), byte(size)})
	}
	return string([]byte{first + 58, byte(size >> 16), byte(size >> 8), byte(size)})
}

func toldNumber(x *big.Int) string {
	return toldText(string(x.Bytes()))
}

func toldSmall(n uint64) string {
	return toldNumber(new(big.Int).SetUint64(n))
}

func toldWord(a api.Word) string {
	return toldNumber(toBig(a))
}

// toldCheck is why x can't be.
func toldCheck(x api.Tx) api.Errno {
	places := 0
	for _, a := range x.Access {
		places += 1 + len(a.Keys)
	}
	nobody := strings.Trim(string(x.To[:]), "\x00") == ""
	for _, bad := range []bool{
		x.Type < 0,
		x.Type > 2,
		x.Chain > 4294967296,
		x.Type == 1 && x.Chain == 0,
		x.Type == 2 && x.Chain == 0,
		x.Type == 0 && toBig(x.Tip).Cmp(toBig(x.Cap)) != 0,
		x.Type == 1 && toBig(x.Tip).Cmp(toBig(x.Cap)) != 0,
		x.Type == 0 && len(x.Access) > 0,
		x.Create && !nobody,
		x.Sig.V < 0,
		x.Sig.V > 1,
	} {
		if bad {
			return api.ErrArg
		}
	}
	if len(x.Data) > 131072 || places > 1024 {
		return api.ErrLong
	}
	return api.OK
}

// toldFields are the bytes of the fields, one by one.
func toldFields(x api.Tx) []string {
	to := string(x.To[:])
	if x.Create {
		to = ""
	}
	behind := []string{toldSmall(x.Gas), toldText(to), toldWord(x.Value), toldText(string(x.Data))}
	switch x.Type {
	case 0:
		return append([]string{toldSmall(x.Nonce), toldWord(x.Cap)}, behind...)
	case 1:
		return append(append([]string{toldSmall(x.Chain), toldSmall(x.Nonce), toldWord(x.Cap)}, behind...), toldAccess(x.Access))
	}
	return append(append([]string{toldSmall(x.Chain), toldSmall(x.Nonce), toldWord(x.Tip), toldWord(x.Cap)}, behind...), toldAccess(x.Access))
}

func toldAccess(l []api.Access) string {
	var all []string
	for _, a := range l {
		var keys []string
		for _, k := range a.Keys {
			keys = append(keys, toldText(string(k[:])))
		}
		all = append(all, toldList(toldText(string(a.Address[:])), toldList(keys...)))
	}
	return toldList(all...)
}

// toldAhead is what stands ahead of the list.
func toldAhead(x api.Tx) string {
	return []string{"", "\x01", "\x02"}[x.Type]
}

// toldV is the number that stands for V.
func toldV(x api.Tx) *big.Int {
	v := big.NewInt(int64(x.Sig.V))
	if x.Type == 0 && x.Chain == 0 {
		return v.Add(v, big.NewInt(27))
	}
	if x.Type == 0 {
		chain := new(big.Int).SetUint64(x.Chain)
		return v.Add(v, big.NewInt(35)).Add(v, chain).Add(v, chain)
	}
	return v
}

// toldBytes are x's bytes, also if it is too long.
func toldBytes(x api.Tx) string {
	return toldAhead(x) + toldList(append(toldFields(x), toldNumber(toldV(x)), toldWord(x.Sig.R), toldWord(x.Sig.S))...)
}

// toldSigned is of what Signed is the hash.
func toldSigned(x api.Tx) string {
	l := toldFields(x)
	if x.Type == 0 && x.Chain != 0 {
		l = append(l, toldSmall(x.Chain), toldSmall(0), toldSmall(0))
	}
	return toldAhead(x) + toldList(l...)
}

// toldDecode is what Decode tells: what any bytes could be at most, if that has just these bytes.
func toldDecode(b []byte) (api.Tx, api.Errno) {
	x, found := guess(b)
	e := toldCheck(x)
	switch {
	case !found || e == api.ErrArg || toldBytes(x) != string(b):
		return api.Tx{}, api.ErrForm
	case e != api.OK:
		return api.Tx{}, e
	}
	return x, api.OK
}

// guess is what b would be, and whether it has as many parts as its type asks for.
func guess(b []byte) (api.Tx, bool) {
	var out api.Tx
	parts := 9
	if len(b) > 0 && b[0] < 0x80 {
		out.Type, parts, b = int(b[0]), 10+int(b[0]), b[1:]
	}
	item, e := rlp.Only(b)
	if e != api.OK || len(item.L) != parts || out.Type > 2 {
		return api.Tx{}, false
	}
	at := -1
	next := func() *big.Int {
		at++
		return new(big.Int).SetBytes(item.L[at].B)
	}
	if out.Type > 0 {
		out.Chain = next().Uint64()
	}
	out.Nonce, out.Tip = next().Uint64(), fromBig(next())
	out.Cap = out.Tip
	if out.Type > 1 {
		out.Cap = fromBig(next())
	}
	out.Gas = next().Uint64()
	next()
	out.Create = len(item.L[at].B) == 0
	copy(out.To[:], item.L[at].B)
	out.Value = fromBig(next())
	next()
	out.Data = item.L[at].B
	if out.Type > 0 {
		next()
		out.Access = guessAccess(item.L[at])
	}
	guessV(&out, next().Uint64())
	out.Sig.R, out.Sig.S = fromBig(next()), fromBig(next())
	return out, true
}

// guessV is what v would tell.
func guessV(x *api.Tx, v uint64) {
	x.Sig.V = int(v % 2)
	if x.Type > 0 {
		return
	}
	x.Sig.V = 1 - x.Sig.V // 27, 35 and all from there on by two are those of V 0
	if v > 34 {
		x.Chain = (v - 35) / 2
	}
}

func guessAccess(x api.Item) []api.Access {
	var out []api.Access
	for _, y := range x.L {
		var a api.Access
		if len(y.L) > 0 {
			copy(a.Address[:], y.L[0].B)
		}
		if len(y.L) > 1 {
			for _, k := range y.L[1].L {
				a.Keys = append(a.Keys, api.Hash(word.Bytes(word.From(k.B))))
			}
		}
		out = append(out, a)
	}
	return out
}

package trie_test

import (
	"encoding/hex"
	"strings"

	"bailiwick/api"
	"bailiwick/keccak"
	"bailiwick/rlp"
)

// The chapter's words told anew: from the pairs alone, whose keys are texts of hexadecimal digits here, without any tree.

// toldText is the bytes of an item of b, toldList of a list of items, of which there are the bytes.
func toldText(b string) string {
	if len(b) == 1 && b[0] < 0x80 {
		return b
	}
	return toldHead(0x80, len(b)) + b
}

func toldList(l ...string) string {
	all := strings.Join(l, "")
	return toldHead(0xc0, len(all)) + all
}

func toldHead(first byte, size int) string {
	switch {
	case size <= 55:
		return string([]byte{first + byte(size)})
	case size < 1<<8:
		return string([]byte{first + 56, byte(size)})
	case size < 1<<16:
		return string([]byte{first + 57, byte(size >> 8), byte(size)})
	}
	return string([]byte{first + 58, byte(size >> 16), byte(size >> 8), byte(size)})
}

// toldPath is the bytes of the item of a path: its digits behind one or two that tell what it is.
func toldPath(path string, leaf bool) string {
	ahead := []string{"00", "1", "20", "3"}
	at := len(path) % 2
	if leaf {
		at += 2
	}
	return toldText(string(unhex(ahead[at] + path)))
}

// byDigits is m by its keys' digits.
func byDigits(m pairs) pairs {
	out := pairs{}
	for key, value := range m {
		out[hex.EncodeToString([]byte(key))] = value
	}
	return out
}

// begun is those of m's pairs whose keys begin so, without it.
func begun(m pairs, with string) pairs {
	out := pairs{}
	for key, value := range m {
		if rest, fits := strings.CutPrefix(key, with); fits {
			out[rest] = value
		}
	}
	return out
}

// toldCommon is with what all of m's keys begin.
func toldCommon(m pairs) string {
	keys := m.keys()
	out := keys[0]
	for len(begun(m, out)) < len(keys) {
		out = out[:len(out)-1]
	}
	return out
}

// toldNode is the bytes of the node of m's pairs, whose keys are digits.
func toldNode(m pairs) string {
	common := toldCommon(m)
	switch {
	case len(m) == 1:
		return toldList(toldPath(common, true), toldText(m[common]))
	case common != "":
		return toldList(toldPath(common, false), toldRef(begun(m, common)))
	}
	var l []string
	for _, x := range "0123456789abcdef" {
		l = append(l, toldRef(begun(m, string(x))))
	}
	return toldList(append(l, toldText(m[""]))...)
}

// toldRef is the bytes of the reference of the node of m's pairs, or of an empty item, if it has none.
func toldRef(m pairs) string {
	if len(m) == 0 {
		return "\x80"
	}
	b := toldNode(m)
	if len(b) < 32 {
		return b
	}
	h := keccak.Sum([]byte(b))
	return "\xa0" + string(h[:])
}

// toldRoot is what Root tells of m.
func toldRoot(m pairs) api.Hash {
	if len(m) == 0 {
		return keccak.Sum([]byte{0x80})
	}
	return keccak.Sum([]byte(toldNode(byDigits(m))))
}

// toldProve is what Prove tells of m and a key.
func toldProve(m pairs, key string) [][]byte {
	if len(m) == 0 {
		return [][]byte{{0x80}}
	}
	all := toldWay(byDigits(m), hex.EncodeToString([]byte(key)))
	out := [][]byte{[]byte(all[0])}
	for _, b := range all[1:] {
		if len(b) >= 32 {
			out = append(out, []byte(b))
		}
	}
	return out
}

// toldWay is the bytes of all nodes on the way to a key, from the node of m's pairs on.
func toldWay(m pairs, key string) []string {
	if len(m) == 0 {
		return nil
	}
	out := []string{toldNode(m)}
	common := toldCommon(m)
	switch {
	case len(m) == 1:
		return out
	case common != "" && strings.HasPrefix(key, common):
		return append(out, toldWay(begun(m, common), key[len(common):])...)
	case common == "" && key != "":
		return append(out, toldWay(begun(m, key[:1]), key[1:])...)
	}
	return out
}

// toldVerify is what Verify tells: by the nodes that are yet to be reached by a hash.
func toldVerify(root api.Hash, key []byte, proof [][]byte) ([]byte, api.Errno) {
	value, left, fine := toldFollow(api.Item{B: root[:]}, hex.EncodeToString(key), proof)
	switch {
	case !fine || value.List || len(left) > 0:
		return nil, api.ErrForm
	case len(value.B) == 0:
		return nil, api.ErrNone
	}
	return value.B, api.OK
}

// toldFollow is what a reference tells of a key: the item of its value, an empty one if it has none; what is left of proof; and whether all of it were nodes.
func toldFollow(ref api.Item, key string, proof [][]byte) (api.Item, [][]byte, bool) {
	if ref.List {
		return toldThrough(ref.L, key, proof)
	}
	if len(ref.B) == 0 {
		return api.Item{}, proof, true
	}
	if len(ref.B) != 32 || len(proof) == 0 {
		return api.Item{}, nil, false
	}
	hash := keccak.Sum(proof[0])
	x, e := rlp.Only(proof[0])
	if string(hash[:]) != string(ref.B) || e != api.OK {
		return api.Item{}, nil, false
	}
	if !x.List {
		return api.Item{}, proof[1:], len(x.B) == 0
	}
	return toldThrough(x.L, key, proof[1:])
}

// toldThrough is what a node of these items tells of a key.
func toldThrough(l []api.Item, key string, proof [][]byte) (api.Item, [][]byte, bool) {
	if len(l) == 17 {
		if key == "" {
			return l[16], proof, true
		}
		return toldFollow(l[strings.Index("0123456789abcdef", key[:1])], key[1:], proof)
	}
	if len(l) != 2 || l[0].List {
		return api.Item{}, nil, false
	}
	packed := hex.EncodeToString(l[0].B)
	for _, ahead := range []string{"00", "1", "20", "3"} {
		path, fits := strings.CutPrefix(packed, ahead)
		leaf := ahead == "20" || ahead == "3"
		switch {
		case !fits:
		case leaf && key == path:
			return l[1], proof, true
		case leaf || !strings.HasPrefix(key, path):
			return api.Item{}, proof, true
		default:
			return toldFollow(l[1], key[len(path):], proof)
		}
	}
	return api.Item{}, nil, false
}

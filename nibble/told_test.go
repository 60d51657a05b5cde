package nibble_test

import (
	"encoding/hex"
	"strings"

	"bailiwick/api"
)

// The chapter's words told anew, by hexadecimal digits: a nibble is what one of them stands for.
const hexDigits = "0123456789abcdef"

// toldOf is what Of tells.
func toldOf(b []byte) []byte {
	return each(hex.EncodeToString(b))
}

// text is the digits of nibbles, and false, if one of them is none.
func text(n []byte) (string, bool) {
	var out strings.Builder
	for _, x := range n {
		if int(x) >= len(hexDigits) {
			return "", false
		}
		out.WriteByte(hexDigits[x])
	}
	return out.String(), true
}

// toldBytes is what Bytes tells.
func toldBytes(n []byte) ([]byte, api.Errno) {
	digits, fine := text(n)
	b, err := hex.DecodeString(digits)
	if !fine || err != nil {
		return nil, api.ErrForm
	}
	return b, api.OK
}

// toldPack is what Pack tells.
func toldPack(n []byte, leaf bool) ([]byte, api.Errno) {
	digits, fine := text(n)
	if !fine {
		return nil, api.ErrForm
	}
	ahead := [][]string{{"00", "1"}, {"20", "3"}}
	kind := 0
	if leaf {
		kind = 1
	}
	return unhex(ahead[kind][len(digits)%2] + digits), api.OK
}

// toldUnpack is what Unpack tells: just one of four beginnings fits.
func toldUnpack(b []byte) ([]byte, bool, api.Errno) {
	digits := hex.EncodeToString(b)
	for ahead, leaf := range map[string]bool{"00": false, "1": false, "20": true, "3": true} {
		if rest, fits := strings.CutPrefix(digits, ahead); fits {
			return each(rest), leaf, api.OK
		}
	}
	return nil, false, api.ErrForm
}

// toldCommon is what Common tells: the longest beginning of the one that is one of the other, from the greatest on.
func toldCommon(a, b []byte) int {
	n := len(a)
	for !strings.HasPrefix(string(b), string(a[:n])) {
		n--
	}
	return n
}

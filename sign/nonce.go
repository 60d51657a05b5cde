package sign

import (
	"bytes"

	"bailiwick/api"
	"bailiwick/sha"
	"bailiwick/word"
)

// drawn is a number above 0 and below n that nobody can guess who does not know key, but always the same one for key and z.
func drawn(n, key, z api.Word) api.Word {
	var secret, value api.Hash
	for i := range value {
		value[i] = 1
	}
	code := func(parts ...[]byte) api.Hash {
		return sha.HMAC(secret[:], bytes.Join(append([][]byte{value[:]}, parts...), nil))
	}
	stir := func(parts ...[]byte) {
		secret = code(parts...)
		value = code()
	}
	x, hashed := word.Bytes(key), word.Bytes(z)
	stir([]byte{0}, x[:], hashed[:])
	stir([]byte{1}, x[:], hashed[:])
	for {
		value = code()
		k := word.From(value[:])
		if inside(n, k) {
			return k
		}
		stir([]byte{0})
	}
}

package pairing

import (
	"slices"

	"bailiwick/api"
	"bailiwick/word"
)

// Sizes, in bytes: of a number, of a point, of a point and one of the twist.
const (
	numberSize = 32
	pointSize  = 2 * numberSize
	pairSize   = 6 * numberSize
)

// CallAdd is the sum of two points, by bytes.
func CallAdd(b []byte) ([]byte, api.Errno) {
	l := numbers(b, 4)
	return pointBytes(Add(toPoint(l[:2]), toPoint(l[2:])))
}

// CallMul is a point added so many times, by bytes.
func CallMul(b []byte) ([]byte, api.Errno) {
	l := numbers(b, 3)
	return pointBytes(Mul(l[2], toPoint(l[:2])))
}

// CallPair is whether the pairs' product is 1, by bytes.
func CallPair(b []byte) ([]byte, api.Errno) {
	if len(b)%pairSize != 0 {
		return nil, api.ErrForm
	}
	if len(b) > maxPairs*pairSize { // Check would tell it, but only when all is read
		return nil, api.ErrLong
	}
	var l []api.Point
	var m []api.Twist
	for pair := range slices.Chunk(b, pairSize) {
		l = append(l, toPoint(numbers(pair, 2)))
		m = append(m, toTwist(numbers(pair[pointSize:], 4)))
	}
	is, e := Check(l, m)
	if e != api.OK {
		return nil, e
	}
	out := make([]byte, numberSize)
	if is {
		out[numberSize-1] = 1
	}
	return out, api.OK
}

// numbers are the first so many of b, behind which noughts stand.
func numbers(b []byte, count int) []api.Word {
	out := make([]api.Word, count)
	filled := make([]byte, count*numberSize)
	copy(filled, b)
	for i := range out {
		out[i] = word.From(filled[i*numberSize:][:numberSize])
	}
	return out
}

func toPoint(l []api.Word) api.Point {
	p := api.Point{X: l[0], Y: l[1]}
	p.None = p == api.Point{}
	return p
}

func toTwist(l []api.Word) api.Twist {
	q := api.Twist{X: api.F2{l[1], l[0]}, Y: api.F2{l[3], l[2]}}
	q.None = q == api.Twist{}
	return q
}

// pointBytes are those of a point, if there is no error beside it; None's X and Y are 0.
func pointBytes(p api.Point, e api.Errno) ([]byte, api.Errno) {
	if e != api.OK {
		return nil, e
	}
	x, y := word.Bytes(p.X), word.Bytes(p.Y)
	return slices.Concat(x[:], y[:]), api.OK
}

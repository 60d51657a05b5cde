package curve

import (
	"bailiwick/api"
	"bailiwick/word"
)

// highest is where the highest digit stands: a digit may be -1, so a number of 256 bits may have one more.
const highest = 256

// path is what is added on the way to so many times a point: at each digit, the lowest first, one of three points.
type path struct {
	points [3]api.Point
	digits [highest + 1]int
}

// pathTo is the path to so many times a point.
func (g group) pathTo(t times) path {
	return path{[3]api.Point{none(), t.p, g.turned(t.p)}, digits(t.k)}
}

// digits are k's binary ones, the lowest first, but some are -1, told as 2: so two of three are 0, and add nothing.
func digits(k api.Word) [highest + 1]int {
	var out [highest + 1]int
	for i := range out {
		half := word.Shr(word.Of(1), k)
		switch k[0] % 4 {
		case 1:
			out[i] = 1
		case 3:
			out[i] = 2
			half = word.Add(half, word.Of(1))
		}
		k = half
	}
	return out
}

package sign

import (
	"bailiwick/api"
	"bailiwick/curve"
	"bailiwick/field"
	"bailiwick/word"
)

func none() api.Point {
	return api.Point{None: true}
}

// inside tells whether a is above 0 and below n.
func inside(n, a api.Word) bool {
	return a != api.Word{} && word.Cmp(a, n) < 0
}

// fit tells whether s has an R and an S that a signature can have.
func fit(s api.Sig) bool {
	n := field.Order().Modulus()
	return inside(n, s.R) && inside(n, s.S)
}

// number is what is signed for h.
func number(h api.Hash) api.Word {
	return field.Order().Of(word.From(h[:]))
}

// made is key's signature of z with the number k, whose point is p.
func made(key, z, k api.Word, p api.Point) (api.Sig, api.Errno) {
	n := field.Order()
	inverse, _ := n.Inv(k) // all numbers but 0 have one, as n is prime
	s := api.Sig{R: p.X, S: n.Mul(n.Add(z, n.Mul(p.X, key)), inverse), V: int(p.Y[0] % 2)}
	if !fit(s) {
		return api.Sig{}, api.ErrZero
	}
	if !Low(s) {
		s.S = n.Neg(s.S)
		s.V = 1 - s.V
	}
	return s, api.OK
}

// sumBy is a by d times the base and b by d times p, and whether that is a point, and not None.
func sumBy(d, a, b api.Word, p api.Point) (api.Point, bool) {
	n := field.Order()
	inverse, _ := n.Inv(d)
	sum, e := curve.Two(n.Mul(a, inverse), curve.Base(), n.Mul(b, inverse), p)
	return sum, e == api.OK && !sum.None
}

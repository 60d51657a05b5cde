package tower

import (
	"bailiwick/api"
	"bailiwick/field"
	"bailiwick/word"
)

// tower is the field modulo p, and the fields that stand upon it.
// All that is handed in goes through the field, which takes it modulo p: so nothing above it has to.
type tower struct {
	*field.Field
}

func fields() tower {
	return tower{field.Base()}
}

func (t tower) add2(a, b api.F2) api.F2 {
	return api.F2{t.Add(a[0], b[0]), t.Add(a[1], b[1])}
}

func (t tower) sub2(a, b api.F2) api.F2 {
	return api.F2{t.Sub(a[0], b[0]), t.Sub(a[1], b[1])}
}

func (t tower) mul2(a, b api.F2) api.F2 {
	return api.F2{
		t.Sub(t.Mul(a[0], b[0]), t.Mul(a[1], b[1])),
		t.Add(t.Mul(a[0], b[1]), t.Mul(a[1], b[0])),
	}
}

func (t tower) inv2(a api.F2) (api.F2, bool) {
	// a times its conj2 is the sum of two squares, which is 0 of 0 alone: it has no i, so it is divided by in the field.
	inverse, found := t.Inv(t.Add(t.Mul(a[0], a[0]), t.Mul(a[1], a[1])))
	return api.F2{t.Mul(a[0], inverse), t.Neg(t.Mul(a[1], inverse))}, found
}

func (t tower) conj2(a api.F2) api.F2 {
	return api.F2{t.Of(a[0]), t.Neg(a[1])}
}

// lifted is a times w^6, which is 9 and i.
func (t tower) lifted(a api.F2) api.F2 {
	nine := word.Of(9)
	return api.F2{
		t.Sub(t.Mul(a[0], nine), a[1]),
		t.Add(t.Mul(a[1], nine), a[0]),
	}
}

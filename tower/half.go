package tower

import "bailiwick/api"

// half is every other part of a number: its even ones, those of 1, w^2 and w^4, or its odd ones, with a w taken out.
// Halves are a field of their own, between F2 and F12.
type half [3]api.F2

// halves are the even and the odd half of a.
func halves(a api.F12) (half, half) {
	return half{a[0], a[2], a[4]}, half{a[1], a[3], a[5]}
}

// whole is the number of an even and an odd half.
func whole(even, odd half) api.F12 {
	return api.F12{even[0], odd[0], even[1], odd[1], even[2], odd[2]}
}

func (t tower) addHalf(a, b half) half {
	for i, x := range b {
		a[i] = t.add2(a[i], x)
	}
	return a
}

func (t tower) subHalf(a, b half) half {
	for i, x := range b {
		a[i] = t.sub2(a[i], x)
	}
	return a
}

func (t tower) mulHalf(a, b half) half {
	var own half
	for i, x := range a {
		own[i] = t.mul2(x, b[i])
	}
	// The sums' product, less two that are told already, is the two others together: so six products do for nine.
	cross := func(i, j int) api.F2 {
		all := t.mul2(t.add2(a[i], a[j]), t.add2(b[i], b[j]))
		return t.sub2(all, t.add2(own[i], own[j]))
	}
	return half{
		t.add2(own[0], t.lifted(cross(1, 2))),
		t.add2(cross(0, 1), t.lifted(own[2])),
		t.add2(cross(0, 2), own[1]),
	}
}

// shifted is a times w^2.
func (t tower) shifted(a half) half {
	return half{t.lifted(a[2]), a[0], a[1]}
}

func (t tower) invHalf(a half) (half, bool) {
	// With these parts all of the product is 0 but its part of 1: so it is divided by in F2.
	parts := half{
		t.sub2(t.mul2(a[0], a[0]), t.lifted(t.mul2(a[1], a[2]))),
		t.sub2(t.lifted(t.mul2(a[2], a[2])), t.mul2(a[0], a[1])),
		t.sub2(t.mul2(a[1], a[1]), t.mul2(a[0], a[2])),
	}
	inverse, found := t.inv2(t.mulHalf(a, parts)[0])
	return t.mulHalf(parts, half{inverse}), found
}

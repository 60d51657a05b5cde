package pairing

import (
	"bailiwick/api"
	"bailiwick/tower"
)

// finished is f to the power (p^12 less 1) by r, which is the product of p^6 less 1, p^2 and 1, and (p^4 less p^2 and 1) by r.
func finished(f api.F12) api.F12 {
	inverse, _ := tower.Inv12(f) // f is not 0: no point has 0 as Y, so no line is 0
	f = times(tower.Conj12(f), inverse)
	f = times(tower.Power(tower.Power(f)), f)
	return last(f)
}

// last is f to the power (p^4 less p^2 and 1) by r, of an f whose inverse is its conj12.
// p and r are told by powers of a number s (36 s^4 and 36 s^3 and 24 s^2, or 18 s^2, and 6 s and 1), and so is the power:
// p^3, and (6 s^2 and 1) p^2, less (36 s^3 and 18 s^2 and 12 s less 1) p, less (36 s^3 and 30 s^2 and 18 s and 2).
func last(f api.F12) api.F12 {
	s := toSeed(f)
	ss := toSeed(s)
	sss := toSeed(ss)
	upper := times(sss, sss, ss)
	upper = times(upper, upper, upper, s, s)
	lower := times(upper, ss, ss, s)
	sixth := times(tower.Conj12(lower), tower.Power(times(tower.Conj12(upper), tower.Power(ss))))
	half := times(sixth, sixth, sixth, tower.Conj12(f))
	rest := tower.Power(times(f, tower.Power(times(f, tower.Power(f)))))
	return times(half, half, rest)
}

// toSeed is f to the power s, which is 4965661367192848881.
func toSeed(f api.F12) api.F12 {
	power, _ := tower.Exp12(f, api.Nat{0x4a6909f1, 0x44e992b4})
	return power
}

func times(l ...api.F12) api.F12 {
	out := l[0]
	for _, f := range l[1:] {
		out = tower.Mul12(out, f)
	}
	return out
}

package nat_test

import (
	"math"
	"slices"
	"testing"

	"bailiwick/api"
	"bailiwick/nat"
)

// roomy is a in a list with spare room that holds something.
func roomy(a api.Nat) api.Nat {
	return append(slices.Clone(a), 77, 88, 99)[:len(a)]
}

// whole is a with its spare room.
func whole(a api.Nat) api.Nat {
	return a[:cap(a)]
}

// scribble writes over a and its spare room.
func scribble(a api.Nat) {
	for i := range whole(a) {
		whole(a)[i] ^= math.MaxUint32
	}
}

// holdMemory makes a call, writes over all that it answers, and looks whether that is to be seen in another answer or in what was handed in.
func holdMemory(t *testing.T, name string, handed []api.Nat, call func(l []api.Nat) []api.Nat) {
	t.Helper()
	var l, kept []api.Nat
	for _, a := range handed {
		l = append(l, roomy(a))
		kept = append(kept, slices.Clone(whole(l[len(l)-1])))
	}
	answers, want := call(l), call(l)
	for i := range answers {
		scribble(answers[i])
		for j := range want[i+1:] {
			equal(t, name+"'s other answer", answers[i+1+j], want[i+1+j], handed)
		}
	}
	for i, again := range call(l) {
		equal(t, name+" again", again, want[i], handed)
	}
	for i, a := range l {
		equal(t, "what was handed to "+name, whole(a), kept[i], handed)
	}
}

func TestP2_2NewMemory(t *testing.T) {
	one := func(a api.Nat, _ api.Errno) []api.Nat { return []api.Nat{a} }
	two := func(a, b api.Nat, _ api.Errno) []api.Nat { return []api.Nat{a, b} }
	a, b := api.Nat{5, 6, 7}, api.Nat{1, 1 << 31}
	for _, l := range [][]api.Nat{
		{a, b, of(7)}, {b, a, a}, {a, a, b}, {a, nil, b}, {nil, a, b}, {a, of(1), b}, {a, of(0), of(1)}, {of(1), a, b},
		{behind(a, 2), behind(b, 3), b}, {of(3), of(5), of(7)}, {full(1024), of(1), of(9)}, {full(1024), of(2), of(9)},
	} {
		holdMemory(t, "Add", l, func(l []api.Nat) []api.Nat { return one(nat.Add(l[0], l[1])) })
		holdMemory(t, "Sub", l, func(l []api.Nat) []api.Nat { return one(nat.Sub(l[0], l[1])) })
		holdMemory(t, "Mul", l, func(l []api.Nat) []api.Nat { return one(nat.Mul(l[0], l[1])) })
		holdMemory(t, "GCD", l, func(l []api.Nat) []api.Nat { return one(nat.GCD(l[0], l[1])) })
		holdMemory(t, "DivMod", l, func(l []api.Nat) []api.Nat { return two(nat.DivMod(l[0], l[1])) })
		holdMemory(t, "ModExp", l, func(l []api.Nat) []api.Nat { return one(nat.ModExp(l[0], l[1], l[2])) })
	}
}

func TestP2_1NewMemory(t *testing.T) {
	for _, a := range []api.Nat{nil, of(1), {0, 0}, {1, 2, 0}, {0, 5}, full(40)} {
		holdMemory(t, "Plain", []api.Nat{a}, func(l []api.Nat) []api.Nat { return []api.Nat{nat.Plain(l[0])} })
		holdMemory(t, "Check, Len and Cmp", []api.Nat{a}, func(l []api.Nat) []api.Nat {
			return []api.Nat{of(uint32(nat.Check(l[0]))), of(uint32(nat.Len(l[0]))), of(uint32(nat.Cmp(l[0], l[0])))}
		})
	}
}

func TestP2_1NoSpareRoom(t *testing.T) {
	for n := range 40 {
		got := nat.Plain(behind(full(n), 3))
		same(t, "spare room of Plain", cap(got)-len(got), 0, n)
	}
}

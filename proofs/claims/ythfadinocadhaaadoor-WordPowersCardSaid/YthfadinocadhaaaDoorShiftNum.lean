/- Shifts of words as products and quotients, in plain numbers. -/
import Derived.Test.YthfadinocadhaaaDoorNum
import Derived.Laws.Bits64b
namespace Go.Proofs.YthfadinocadhaaaDoor
open Go.RowKit

theorem pow_split {s t : Nat} (h : s + t = 64) : 2 ^ s * 2 ^ t = 18446744073709551616 := by rw [← Nat.pow_add, h]

/-- A part shifted up beside what came out of the part below it. -/
theorem cmb_up {p q s t : Nat} (hq : q < 18446744073709551616) (h : s + t = 64) :
    bits .or .u64 (IntKind.u64.wrap ((p : Int) * 2 ^ s)) ((q : Int) / 2 ^ t) = ((p * 2 ^ s % 18446744073709551616 + q / 2 ^ t : Nat) : Int) := by
  have hD := pow_split h
  have hT : 0 < 2 ^ t := Nat.two_pow_pos t
  have hqs : q / 2 ^ t < 2 ^ s := by rw [Nat.div_lt_iff_lt_mul hT, hD]; exact hq
  have e1 : IntKind.u64.wrap ((p : Int) * 2 ^ s) = ((p * 2 ^ s % 18446744073709551616 : Nat) : Int) := by
    rw [IntKind.wrap_u64]
    have : ((p : Int) * 2 ^ s) = ((p * 2 ^ s : Nat) : Int) := by simp
    rw [this]; omega
  have e2 : ((q : Int) / 2 ^ t) = ((q / 2 ^ t : Nat) : Int) := by simp
  have e3 : p * 2 ^ s % 18446744073709551616 = 2 ^ s * (p % 2 ^ t) := by
    rw [← hD, Nat.mul_comm p, Nat.mul_mod_mul_left]
  have hl : p * 2 ^ s % 18446744073709551616 < 18446744073709551616 := Nat.mod_lt _ (by omega)
  have hr : q / 2 ^ t < 18446744073709551616 := Nat.lt_of_le_of_lt (Nat.div_le_self _ _) hq
  rw [e1, e2, bits_or_u64_nat _ _ hl hr, e3, ← Nat.two_pow_add_eq_or_of_lt hqs]

/-- A part shifted down beside what came out of the part above it. -/
theorem cmb_down {p q s t : Nat} (hp : p < 18446744073709551616) (h : s + t = 64) :
    bits .or .u64 ((p : Int) / 2 ^ s) (IntKind.u64.wrap ((q : Int) * 2 ^ t)) = ((p / 2 ^ s + q * 2 ^ t % 18446744073709551616 : Nat) : Int) := by
  have hD := pow_split h
  have hS : 0 < 2 ^ s := Nat.two_pow_pos s
  have hps : p / 2 ^ s < 2 ^ t := by rw [Nat.div_lt_iff_lt_mul hS, Nat.mul_comm, hD]; exact hp
  have e1 : IntKind.u64.wrap ((q : Int) * 2 ^ t) = ((q * 2 ^ t % 18446744073709551616 : Nat) : Int) := by
    rw [IntKind.wrap_u64]
    have : ((q : Int) * 2 ^ t) = ((q * 2 ^ t : Nat) : Int) := by simp
    rw [this]; omega
  have e2 : ((p : Int) / 2 ^ s) = ((p / 2 ^ s : Nat) : Int) := by simp
  have e3 : q * 2 ^ t % 18446744073709551616 = 2 ^ t * (q % 2 ^ s) := by
    rw [← hD, Nat.mul_comm (2 ^ s), Nat.mul_comm q, Nat.mul_mod_mul_left]
  have hl : q * 2 ^ t % 18446744073709551616 < 18446744073709551616 := Nat.mod_lt _ (by omega)
  have hr : p / 2 ^ s < 18446744073709551616 := Nat.lt_of_le_of_lt (Nat.div_le_self _ _) hp
  rw [e1, e2, bits_or_u64_nat _ _ hr hl, e3, Nat.or_comm, ← Nat.two_pow_add_eq_or_of_lt hps, Nat.add_comm]

/-- A part times 2^s: what stays, and what goes over. -/
theorem up_split {p s t : Nat} (h : s + t = 64) : p * 2 ^ s = p * 2 ^ s % 18446744073709551616 + 18446744073709551616 * (p / 2 ^ t) := by
  have hD := pow_split h
  have hS : 0 < 2 ^ s := Nat.two_pow_pos s
  have e : p * 2 ^ s / 18446744073709551616 = p / 2 ^ t := by
    rw [← hD, Nat.mul_comm p, Nat.mul_div_mul_left _ _ hS]
  have := Nat.div_add_mod (p * 2 ^ s) 18446744073709551616
  rw [e] at this
  omega

theorem cmb_lt {p q s t : Nat} (hq : q < 18446744073709551616) (h : s + t = 64) : p * 2 ^ s % 18446744073709551616 + q / 2 ^ t < 18446744073709551616 := by
  have hD := pow_split h
  have hT : 0 < 2 ^ t := Nat.two_pow_pos t
  have hqs : q / 2 ^ t < 2 ^ s := by rw [Nat.div_lt_iff_lt_mul hT, hD]; exact hq
  have e3 : p * 2 ^ s % 18446744073709551616 = 2 ^ s * (p % 2 ^ t) := by
    rw [← hD, Nat.mul_comm p, Nat.mul_mod_mul_left]
  have hm : p % 2 ^ t < 2 ^ t := Nat.mod_lt _ hT
  have : 2 ^ s * (p % 2 ^ t) + 2 ^ s ≤ 2 ^ s * 2 ^ t := by
    rw [← Nat.mul_succ]; exact Nat.mul_le_mul_left _ hm
  omega

theorem n4_up (p0 p1 p2 p3 : Nat) {s t : Nat} (h : s + t = 64) :
    n4 (p0 * 2 ^ s % 18446744073709551616 + 0 / 2 ^ t) (p1 * 2 ^ s % 18446744073709551616 + p0 / 2 ^ t) (p2 * 2 ^ s % 18446744073709551616 + p1 / 2 ^ t) (p3 * 2 ^ s % 18446744073709551616 + p2 / 2 ^ t)
      + 115792089237316195423570985008687907853269984665640564039457584007913129639936 * (p3 / 2 ^ t) = n4 p0 p1 p2 p3 * 2 ^ s := by
  have h0 := up_split (p := p0) h
  have h1 := up_split (p := p1) h
  have h2 := up_split (p := p2) h
  have h3 := up_split (p := p3) h
  have e : n4 p0 p1 p2 p3 * 2 ^ s = n4 (p0 * 2 ^ s) (p1 * 2 ^ s) (p2 * 2 ^ s) (p3 * 2 ^ s) := by unfold n4; grind
  rw [e, Nat.zero_div]
  unfold n4
  generalize p0 * 2 ^ s = c0 at *
  generalize p1 * 2 ^ s = c1 at *
  generalize p2 * 2 ^ s = c2 at *
  generalize p3 * 2 ^ s = c3 at *
  omega

/-- Down: the quotient by 2^s of four parts, with more parts above them. -/
theorem n4_down (p0 p1 p2 p3 p4 : Nat) {s t : Nat} (h : s + t = 64) :
    n4 (p0 / 2 ^ s + p1 * 2 ^ t % 18446744073709551616) (p1 / 2 ^ s + p2 * 2 ^ t % 18446744073709551616) (p2 / 2 ^ s + p3 * 2 ^ t % 18446744073709551616) (p3 / 2 ^ s + p4 * 2 ^ t % 18446744073709551616)
      = n4 p0 p1 p2 p3 / 2 ^ s + 6277101735386680763835789423207666416102355444464034512896 * (p4 * 2 ^ t % 18446744073709551616) := by
  have hD := pow_split h
  have hS : 0 < 2 ^ s := Nat.two_pow_pos s
  have h1 := up_split (p := p1) (s := t) (t := s) (by omega)
  have h2 := up_split (p := p2) (s := t) (t := s) (by omega)
  have h3 := up_split (p := p3) (s := t) (t := s) (by omega)
  -- the whole times 2^t, by parts
  have e : n4 p0 p1 p2 p3 = p0 + 2 ^ s * (p1 * 2 ^ t + 18446744073709551616 * (p2 * 2 ^ t) + 340282366920938463463374607431768211456 * (p3 * 2 ^ t)) := by
    unfold n4
    have : ∀ p, 18446744073709551616 * p = 2 ^ s * (p * 2 ^ t) := fun p => by rw [← hD]; grind
    have a1 := this p1
    have a2 := this (18446744073709551616 * p2)
    have a3 := this (340282366920938463463374607431768211456 * p3)
    have b2 : 18446744073709551616 * p2 * 2 ^ t = 18446744073709551616 * (p2 * 2 ^ t) := by grind
    have b3 : 340282366920938463463374607431768211456 * p3 * 2 ^ t = 340282366920938463463374607431768211456 * (p3 * 2 ^ t) := by grind
    rw [b2] at a2
    rw [b3] at a3
    rw [Nat.mul_add, Nat.mul_add, ← a1, ← a2, ← a3]
    omega
  rw [e, Nat.add_mul_div_left _ _ hS]
  unfold n4
  generalize p1 * 2 ^ t = c1 at *
  generalize p2 * 2 ^ t = c2 at *
  generalize p3 * 2 ^ t = c3 at *
  generalize p4 * 2 ^ t = c4 at *
  omega
end Go.Proofs.YthfadinocadhaaaDoor

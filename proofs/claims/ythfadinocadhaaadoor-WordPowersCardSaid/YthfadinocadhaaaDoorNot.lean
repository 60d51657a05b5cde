/- What word.isNegative, word.Not, word.Shr, word.Sar come to, called with any words in any world. -/
import Derived.Test.YthfadinocadhaaaDoorDowns
import Derived.Laws.Bits64
namespace Go.Proofs.YthfadinocadhaaaDoor
open Go.RowKit

set_option maxRecDepth 100000 in
set_option maxHeartbeats 400000 in
theorem isNeg_walk (a0 a1 a2 a3 : Nat) (w : World) :
    Calls Tryd.prog 77 #[.agg #[.int .u64 a0, .int .u64 a1, .int .u64 a2, .int .u64 a3]] w fun e w' => e = .returned (.bool ((a3 : Int) / 9223372036854775808 == 1)) ∧ Below w.heap.size w w' := by
  go_enter Tryd.func77, Tryd.ntmps77
  go_wp2
  go_ret
  exact ⟨rfl, by go_grown⟩

theorem bdec {p q : Prop} [Decidable p] [Decidable q] (h : p ↔ q) : decide p = decide q := by simp [h]

-- WHAT isNegative COMES TO.
theorem isNeg_any (x : Nat) (w : World) :
    Calls Tryd.prog 77 #[wv x] w fun e w' => e = .returned (.bool (decide (57896044618658097711785492504343953926634992332820282019728792003956564819968 ≤ x % 115792089237316195423570985008687907853269984665640564039457584007913129639936))) ∧ Below w.heap.size w w' := by
  obtain ⟨a0, a1, a2, a3, u0, u1, u2, u3, ea, na⟩ := wv_parts x
  rw [ea, ← na]
  have e : decide (57896044618658097711785492504343953926634992332820282019728792003956564819968 ≤ n4 a0 a1 a2 a3) = ((a3 : Int) / 9223372036854775808 == 1) := by
    have : (57896044618658097711785492504343953926634992332820282019728792003956564819968 ≤ n4 a0 a1 a2 a3) ↔ ((a3 : Int) / 9223372036854775808 = 1) := by unfold n4; omega
    rw [show ((a3 : Int) / 9223372036854775808 == 1) = decide ((a3 : Int) / 9223372036854775808 = 1) from rfl]
    exact bdec this
  rw [e]
  exact isNeg_walk a0 a1 a2 a3 w

theorem xor_ones {a : Nat} (h : a < 18446744073709551616) : bits .xor .u64 IntKind.u64.max (a : Int) = ((18446744073709551615 - a : Nat) : Int) := by
  have e : (18446744073709551615 : Nat) ^^^ a = 18446744073709551615 - a := by
    apply Nat.eq_of_testBit_eq
    intro i
    rw [Nat.testBit_xor, show 18446744073709551615 - a = 2 ^ 64 - (a + 1) by omega, Nat.testBit_two_pow_sub_succ (by omega), show (18446744073709551615 : Nat) = 2 ^ 64 - 1 by decide, Nat.testBit_two_pow_sub_one]
    by_cases hi : i < 64
    · simp [hi]
    · have : a.testBit i = false := Nat.testBit_lt_two_pow (Nat.lt_of_lt_of_le h (by have := Nat.pow_le_pow_right (n := 2) (by omega) (show 64 ≤ i by omega); omega))
      simp [hi, this]
  have := bits_xor_u64_nat 18446744073709551615 a (by omega) h
  rw [e] at this
  exact this

set_option maxRecDepth 100000 in
set_option maxHeartbeats 1000000 in
theorem not_walk (a0 a1 a2 a3 : Nat) (w : World) :
    Calls Tryd.prog 43 #[.agg #[.int .u64 a0, .int .u64 a1, .int .u64 a2, .int .u64 a3]] w fun e w' => e = .returned (.agg #[.int .u64 (bits .xor .u64 IntKind.u64.max (a0 : Int)), .int .u64 (bits .xor .u64 IntKind.u64.max (a1 : Int)), .int .u64 (bits .xor .u64 IntKind.u64.max (a2 : Int)), .int .u64 (bits .xor .u64 IntKind.u64.max (a3 : Int))]) ∧ Below w.heap.size w w' := by
  go_enter Tryd.func43, Tryd.ntmps43
  go_wp2
  refine wp_loop_rounds 5 ?_
  iterate 4 (rw [rounds_succ]; go_wp2)
  rw [rounds_succ]
  go_wp2
  go_returns
  exact ⟨rfl, by go_grown⟩

-- WHAT Not COMES TO.
theorem not_any (x : Nat) (w : World) :
    Calls Tryd.prog 43 #[wv x] w fun e w' => e = .returned (wv (115792089237316195423570985008687907853269984665640564039457584007913129639935 - x % 115792089237316195423570985008687907853269984665640564039457584007913129639936)) ∧ Below w.heap.size w w' := by
  obtain ⟨a0, a1, a2, a3, u0, u1, u2, u3, ea, na⟩ := wv_parts x
  rw [ea, ← na, ← n4_comp (c0 := 18446744073709551615 - a0) (c1 := 18446744073709551615 - a1) (c2 := 18446744073709551615 - a2) (c3 := 18446744073709551615 - a3) (by omega) (by omega) (by omega) (by omega), wv_n4 (by omega) (by omega) (by omega) (by omega), ← xor_ones u0, ← xor_ones u1, ← xor_ones u2, ← xor_ones u3]
  exact not_walk a0 a1 a2 a3 w

set_option maxRecDepth 100000 in
set_option maxHeartbeats 1000000 in
theorem shr_walk (a0 a1 a2 a3 b0 b1 b2 b3 p0 p1 p2 p3 : Nat) (w : World)
    (hP : ∀ w, Calls Tryd.prog 83 #[.agg #[.int .u64 a0, .int .u64 a1, .int .u64 a2, .int .u64 a3], .agg #[.int .u64 b0, .int .u64 b1, .int .u64 b2, .int .u64 b3], .int .u64 0] w fun e w' =>
      e = .returned (.agg #[.int .u64 p0, .int .u64 p1, .int .u64 p2, .int .u64 p3]) ∧ Below w.heap.size w w') :
    Calls Tryd.prog 39 #[.agg #[.int .u64 a0, .int .u64 a1, .int .u64 a2, .int .u64 a3], .agg #[.int .u64 b0, .int .u64 b1, .int .u64 b2, .int .u64 b3]] w fun e w' =>
      e = .returned (.agg #[.int .u64 p0, .int .u64 p1, .int .u64 p2, .int .u64 p3]) ∧ Below w.heap.size w w' := by
  go_enter Tryd.func39, Tryd.ntmps39
  go_wp2_with fail
  refine (hP _).mono ?_
  rintro e w1 ⟨rfl, hb⟩
  obtain ⟨⟨q0, q1, q2, q3⟩, ⟨f0, f1, f2, f3⟩, hz, hb'⟩ := after4 (w := w) (B := w.heap.size) (w.heap.size + 1 + 1) hb (by go_grown) (by simp; omega) (by simp) (by go_cell) (by go_cell) (by go_cell) (by go_cell) (by go_cell) (by go_cell) (by go_cell) (by go_cell)
  clear hb
  go_wp2
  refine bodyPost_ret (by simp [results, Tryd.results39, go_sem, q0, q1, q2, q3]; try rfl) rfl ⟨rfl, ?_⟩
  go_grown

-- WHAT Shr COMES TO.
theorem shr_any (k x : Nat) (w : World) :
    Calls Tryd.prog 39 #[wv k, wv x] w fun e w' => e = .returned (wv (x % 115792089237316195423570985008687907853269984665640564039457584007913129639936 / 2 ^ min (k % 115792089237316195423570985008687907853269984665640564039457584007913129639936) 256)) ∧ Below w.heap.size w w' := by
  have hP := fun w => down0_any k x w
  obtain ⟨k0, k1, k2, k3, -, -, -, -, ek, -⟩ := wv_parts k
  obtain ⟨a0, a1, a2, a3, -, -, -, -, ea, -⟩ := wv_parts x
  obtain ⟨p0, p1, p2, p3, -, -, -, -, ep, -⟩ := wv_parts (x % 115792089237316195423570985008687907853269984665640564039457584007913129639936 / 2 ^ min (k % 115792089237316195423570985008687907853269984665640564039457584007913129639936) 256)
  rw [ek, ea, ep] at hP
  rw [ek, ea, ep]
  exact shr_walk k0 k1 k2 k3 a0 a1 a2 a3 p0 p1 p2 p3 w hP

set_option maxRecDepth 100000 in
set_option maxHeartbeats 1000000 in
theorem sar_pos (a0 a1 a2 a3 b0 b1 b2 b3 p0 p1 p2 p3 : Nat) (w : World)
    (hN : ∀ w, Calls Tryd.prog 77 #[.agg #[.int .u64 b0, .int .u64 b1, .int .u64 b2, .int .u64 b3]] w fun e w' => e = .returned (.bool false) ∧ Below w.heap.size w w')
    (hP : ∀ w, Calls Tryd.prog 83 #[.agg #[.int .u64 a0, .int .u64 a1, .int .u64 a2, .int .u64 a3], .agg #[.int .u64 b0, .int .u64 b1, .int .u64 b2, .int .u64 b3], .int .u64 0] w fun e w' =>
      e = .returned (.agg #[.int .u64 p0, .int .u64 p1, .int .u64 p2, .int .u64 p3]) ∧ Below w.heap.size w w') :
    Calls Tryd.prog 41 #[.agg #[.int .u64 a0, .int .u64 a1, .int .u64 a2, .int .u64 a3], .agg #[.int .u64 b0, .int .u64 b1, .int .u64 b2, .int .u64 b3]] w fun e w' =>
      e = .returned (.agg #[.int .u64 p0, .int .u64 p1, .int .u64 p2, .int .u64 p3]) ∧ Below w.heap.size w w' := by
  go_enter Tryd.func41, Tryd.ntmps41
  go_wp2_with fail
  refine (hN _).mono ?_
  rintro e w1 ⟨rfl, hb⟩
  obtain ⟨x0, -, -⟩ := after1 (b := w.heap.size) (i := 0) (v := .int .u64 a0) hb (by simp; omega) (by go_cell) (by go_cell)
  obtain ⟨x1, -, -⟩ := after1 (b := w.heap.size) (i := 1) (v := .int .u64 a1) hb (by simp; omega) (by go_cell) (by go_cell)
  obtain ⟨x2, -, -⟩ := after1 (b := w.heap.size) (i := 2) (v := .int .u64 a2) hb (by simp; omega) (by go_cell) (by go_cell)
  obtain ⟨x3, -, -⟩ := after1 (b := w.heap.size) (i := 3) (v := .int .u64 a3) hb (by simp; omega) (by go_cell) (by go_cell)
  obtain ⟨y0, -, -⟩ := after1 (b := w.heap.size + 1) (i := 0) (v := .int .u64 b0) hb (by simp) (by go_cell) (by go_cell)
  obtain ⟨y1, -, -⟩ := after1 (b := w.heap.size + 1) (i := 1) (v := .int .u64 b1) hb (by simp) (by go_cell) (by go_cell)
  obtain ⟨y2, -, -⟩ := after1 (b := w.heap.size + 1) (i := 2) (v := .int .u64 b2) hb (by simp) (by go_cell) (by go_cell)
  obtain ⟨y3, -, -⟩ := after1 (b := w.heap.size + 1) (i := 3) (v := .int .u64 b3) hb (by simp) (by go_cell) (by go_cell)
  obtain ⟨⟨q0, q1, q2, q3⟩, ⟨f0, f1, f2, f3⟩, hz, hb'⟩ := after4 (w := w) (B := w.heap.size) (w.heap.size + 1 + 1) hb (by go_grown) (by simp; omega) (by simp) (by go_cell) (by go_cell) (by go_cell) (by go_cell) (by go_cell) (by go_cell) (by go_cell) (by go_cell)
  clear hb
  go_wp2_with fail
  refine (hP _).mono ?_
  rintro e w2 ⟨rfl, hb⟩
  obtain ⟨⟨r0, r1, r2, r3⟩, ⟨g0, g1, g2, g3⟩, hy, hb''⟩ := after4 (w := w) (B := w.heap.size) (w.heap.size + 1 + 1) hb hb' hb'.size hz q0 q1 q2 q3 f0 f1 f2 f3
  clear hb q0 q1 q2 q3 f0 f1 f2 f3 hz x0 x1 x2 x3 y0 y1 y2 y3
  go_wp2
  refine bodyPost_ret (by simp [results, Tryd.results41, go_sem, r0, r1, r2, r3]; try rfl) rfl ⟨rfl, ?_⟩
  go_grown

set_option maxRecDepth 100000 in
set_option maxHeartbeats 1000000 in
theorem sar_neg (a0 a1 a2 a3 b0 b1 b2 b3 p0 p1 p2 p3 : Nat) (w : World)
    (hN : ∀ w, Calls Tryd.prog 77 #[.agg #[.int .u64 b0, .int .u64 b1, .int .u64 b2, .int .u64 b3]] w fun e w' => e = .returned (.bool true) ∧ Below w.heap.size w w')
    (hP : ∀ w, Calls Tryd.prog 83 #[.agg #[.int .u64 a0, .int .u64 a1, .int .u64 a2, .int .u64 a3], .agg #[.int .u64 b0, .int .u64 b1, .int .u64 b2, .int .u64 b3], .int .u64 18446744073709551615] w fun e w' =>
      e = .returned (.agg #[.int .u64 p0, .int .u64 p1, .int .u64 p2, .int .u64 p3]) ∧ Below w.heap.size w w') :
    Calls Tryd.prog 41 #[.agg #[.int .u64 a0, .int .u64 a1, .int .u64 a2, .int .u64 a3], .agg #[.int .u64 b0, .int .u64 b1, .int .u64 b2, .int .u64 b3]] w fun e w' =>
      e = .returned (.agg #[.int .u64 p0, .int .u64 p1, .int .u64 p2, .int .u64 p3]) ∧ Below w.heap.size w w' := by
  go_enter Tryd.func41, Tryd.ntmps41
  go_wp2_with fail
  refine (hN _).mono ?_
  rintro e w1 ⟨rfl, hb⟩
  obtain ⟨x0, -, -⟩ := after1 (b := w.heap.size) (i := 0) (v := .int .u64 a0) hb (by simp; omega) (by go_cell) (by go_cell)
  obtain ⟨x1, -, -⟩ := after1 (b := w.heap.size) (i := 1) (v := .int .u64 a1) hb (by simp; omega) (by go_cell) (by go_cell)
  obtain ⟨x2, -, -⟩ := after1 (b := w.heap.size) (i := 2) (v := .int .u64 a2) hb (by simp; omega) (by go_cell) (by go_cell)
  obtain ⟨x3, -, -⟩ := after1 (b := w.heap.size) (i := 3) (v := .int .u64 a3) hb (by simp; omega) (by go_cell) (by go_cell)
  obtain ⟨y0, -, -⟩ := after1 (b := w.heap.size + 1) (i := 0) (v := .int .u64 b0) hb (by simp) (by go_cell) (by go_cell)
  obtain ⟨y1, -, -⟩ := after1 (b := w.heap.size + 1) (i := 1) (v := .int .u64 b1) hb (by simp) (by go_cell) (by go_cell)
  obtain ⟨y2, -, -⟩ := after1 (b := w.heap.size + 1) (i := 2) (v := .int .u64 b2) hb (by simp) (by go_cell) (by go_cell)
  obtain ⟨y3, -, -⟩ := after1 (b := w.heap.size + 1) (i := 3) (v := .int .u64 b3) hb (by simp) (by go_cell) (by go_cell)
  obtain ⟨⟨q0, q1, q2, q3⟩, ⟨f0, f1, f2, f3⟩, hz, hb'⟩ := after4 (w := w) (B := w.heap.size) (w.heap.size + 1 + 1) hb (by go_grown) (by simp; omega) (by simp) (by go_cell) (by go_cell) (by go_cell) (by go_cell) (by go_cell) (by go_cell) (by go_cell) (by go_cell)
  clear hb
  go_wp2_with fail
  refine (hP _).mono ?_
  rintro e w2 ⟨rfl, hb⟩
  obtain ⟨⟨r0, r1, r2, r3⟩, ⟨g0, g1, g2, g3⟩, hy, hb''⟩ := after4 (w := w) (B := w.heap.size) (w.heap.size + 1 + 1) hb hb' hb'.size hz q0 q1 q2 q3 f0 f1 f2 f3
  clear hb q0 q1 q2 q3 f0 f1 f2 f3 hz x0 x1 x2 x3 y0 y1 y2 y3
  go_wp2
  refine bodyPost_ret (by simp [results, Tryd.results41, go_sem, r0, r1, r2, r3]; try rfl) rfl ⟨rfl, ?_⟩
  go_grown

-- WHAT Sar COMES TO.
theorem sar_any (k x : Nat) (w : World) :
    Calls Tryd.prog 41 #[wv k, wv x] w fun e w' => e = .returned (wv (if 57896044618658097711785492504343953926634992332820282019728792003956564819968 ≤ x % 115792089237316195423570985008687907853269984665640564039457584007913129639936 then 115792089237316195423570985008687907853269984665640564039457584007913129639935 - (115792089237316195423570985008687907853269984665640564039457584007913129639935 - x % 115792089237316195423570985008687907853269984665640564039457584007913129639936) / 2 ^ min (k % 115792089237316195423570985008687907853269984665640564039457584007913129639936) 256 else x % 115792089237316195423570985008687907853269984665640564039457584007913129639936 / 2 ^ min (k % 115792089237316195423570985008687907853269984665640564039457584007913129639936) 256)) ∧ Below w.heap.size w w' := by
  have hN := fun w => isNeg_any x w
  have hP0 := fun w => down0_any k x w
  have hP1 := fun w => down1_any k x w
  generalize 115792089237316195423570985008687907853269984665640564039457584007913129639935 - (115792089237316195423570985008687907853269984665640564039457584007913129639935 - x % 115792089237316195423570985008687907853269984665640564039457584007913129639936) / 2 ^ min (k % 115792089237316195423570985008687907853269984665640564039457584007913129639936) 256 = r1 at *
  generalize x % 115792089237316195423570985008687907853269984665640564039457584007913129639936 / 2 ^ min (k % 115792089237316195423570985008687907853269984665640564039457584007913129639936) 256 = r0 at *
  obtain ⟨k0, k1, k2, k3, -, -, -, -, ek, -⟩ := wv_parts k
  obtain ⟨a0, a1, a2, a3, -, -, -, -, ea, -⟩ := wv_parts x
  by_cases h : 57896044618658097711785492504343953926634992332820282019728792003956564819968 ≤ x % 115792089237316195423570985008687907853269984665640564039457584007913129639936
  · rw [decide_eq_true h] at hN
    rw [if_pos h]
    obtain ⟨p0, p1, p2, p3, -, -, -, -, ep, -⟩ := wv_parts r1
    rw [ek, ea, ep] at hP1
    rw [ea] at hN
    rw [ek, ea, ep]
    exact sar_neg k0 k1 k2 k3 a0 a1 a2 a3 p0 p1 p2 p3 w hN hP1
  · rw [decide_eq_false h] at hN
    rw [if_neg h]
    obtain ⟨p0, p1, p2, p3, -, -, -, -, ep, -⟩ := wv_parts r0
    rw [ek, ea, ep] at hP0
    rw [ea] at hN
    rw [ek, ea, ep]
    exact sar_pos k0 k1 k2 k3 a0 a1 a2 a3 p0 p1 p2 p3 w hN hP0
end Go.Proofs.YthfadinocadhaaaDoor

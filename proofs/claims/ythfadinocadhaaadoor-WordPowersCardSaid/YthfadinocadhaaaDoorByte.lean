/- What word.Byte comes to, called with any two words in any world. -/
import Derived.Test.YthfadinocadhaaaDoorBytes
namespace Go.Proofs.YthfadinocadhaaaDoor
open Go.RowKit

theorem wv_small {x : Nat} (h : x < 18446744073709551616) : wv x = .agg #[.int .u64 x, .int .u64 0, .int .u64 0, .int .u64 0] := by
  have := wv_n4 (a0 := x) (a1 := 0) (a2 := 0) (a3 := 0) h (by omega) (by omega) (by omega)
  rw [show n4 x 0 0 0 = x by unfold n4; omega] at this
  exact this
theorem wv_zero : wv 0 = .agg #[.int .u64 0, .int .u64 0, .int .u64 0, .int .u64 0] := by kernel_rfl

set_option maxRecDepth 100000 in
set_option maxHeartbeats 1000000 in
theorem byte_in (k0 k1 k2 k3 a0 a1 a2 a3 n y : Nat) (V : Value) (hn : (n : Int) ≤ 31) (hy : (y : Int) ≤ 255) (w : World)
    (hS : ∀ w, Calls Tryd.prog 52 #[.agg #[.int .u64 k0, .int .u64 k1, .int .u64 k2, .int .u64 k3]] w fun e w' => e = .returned (.tuple #[.int .u64 n, .bool true]) ∧ Below w.heap.size w w')
    (hB : ∀ w, Calls Tryd.prog 50 #[.agg #[.int .u64 a0, .int .u64 a1, .int .u64 a2, .int .u64 a3]] w fun e w' => e = .returned V ∧ Below w.heap.size w w')
    (hI : ∀ w, (Instr.index 36 V (.int .u64 n)).run Tryd.prog w = .ok (.int .u8 y) w) :
    Calls Tryd.prog 35 #[.agg #[.int .u64 k0, .int .u64 k1, .int .u64 k2, .int .u64 k3], .agg #[.int .u64 a0, .int .u64 a1, .int .u64 a2, .int .u64 a3]] w fun e w' => e = .returned (.agg #[.int .u64 y, .int .u64 0, .int .u64 0, .int .u64 0]) ∧ Below w.heap.size w w' := by
  have hO := fun w => of_walk y w
  have hy0 : (0 : Int) ≤ y := by omega
  go_enter Tryd.func35, Tryd.ntmps35
  go_wp2_with fail
  refine (hS _).mono ?_
  rintro e w1 ⟨rfl, hb⟩
  obtain ⟨y0, -, -⟩ := after1 (b := w.heap.size + 1) (i := 0) (v := .int .u64 a0) hb (by first | (simp; done) | (simp; omega)) (by go_cell) (by go_cell)
  obtain ⟨y1, -, -⟩ := after1 (b := w.heap.size + 1) (i := 1) (v := .int .u64 a1) hb (by first | (simp; done) | (simp; omega)) (by go_cell) (by go_cell)
  obtain ⟨y2, -, -⟩ := after1 (b := w.heap.size + 1) (i := 2) (v := .int .u64 a2) hb (by first | (simp; done) | (simp; omega)) (by go_cell) (by go_cell)
  obtain ⟨y3, -, -⟩ := after1 (b := w.heap.size + 1) (i := 3) (v := .int .u64 a3) hb (by first | (simp; done) | (simp; omega)) (by go_cell) (by go_cell)
  obtain ⟨⟨q0, q1, q2, q3⟩, ⟨f0, f1, f2, f3⟩, z, b⟩ := after4 (w := w) (B := w.heap.size) (w.heap.size + 1 + 1) hb (by go_grown) (by simp; omega) (by simp) (by go_cell) (by go_cell) (by go_cell) (by go_cell) (by go_cell) (by go_cell) (by go_cell) (by go_cell)
  clear hb
  go_wp2_with fail
  refine (hB _).mono ?_
  rintro e w2 ⟨rfl, hb⟩
  obtain ⟨⟨r0, r1, r2, r3⟩, ⟨g0, g1, g2, g3⟩, h, c⟩ := after4 (w := w) (B := w.heap.size) (w.heap.size + 1 + 1) hb b b.size z q0 q1 q2 q3 f0 f1 f2 f3
  clear hb q0 q1 q2 q3 f0 f1 f2 f3 z y0 y1 y2 y3
  go_wp2_with fail
  refine (hO _).mono ?_
  rintro e w3 ⟨rfl, hb⟩
  obtain ⟨⟨s0, s1, s2, s3⟩, ⟨t0, t1, t2, t3⟩, u, d⟩ := after4 (w := w) (B := w.heap.size) (w.heap.size + 1 + 1) hb c c.size h r0 r1 r2 r3 g0 g1 g2 g3
  clear hb r0 r1 r2 r3 g0 g1 g2 g3 h
  go_wp2
  refine bodyPost_ret (by simp [results, Tryd.results35, go_sem, s0, s1, s2, s3]; try rfl) rfl ⟨rfl, ?_⟩
  go_grown

set_option maxRecDepth 100000 in
set_option maxHeartbeats 1000000 in
theorem byte_out (k0 k1 k2 k3 n : Nat) (Va : Value) (a0 a1 a2 a3 : Nat) (ea : Va = .agg #[.int .u64 a0, .int .u64 a1, .int .u64 a2, .int .u64 a3]) (hn : (31 : Int) < n) (w : World)
    (hS : ∀ w, Calls Tryd.prog 52 #[.agg #[.int .u64 k0, .int .u64 k1, .int .u64 k2, .int .u64 k3]] w fun e w' => e = .returned (.tuple #[.int .u64 n, .bool true]) ∧ Below w.heap.size w w') :
    Calls Tryd.prog 35 #[.agg #[.int .u64 k0, .int .u64 k1, .int .u64 k2, .int .u64 k3], Va] w fun e w' => e = .returned (.agg #[.int .u64 0, .int .u64 0, .int .u64 0, .int .u64 0]) ∧ Below w.heap.size w w' := by
  subst ea
  go_enter Tryd.func35, Tryd.ntmps35
  go_wp2_with fail
  refine (hS _).mono ?_
  rintro e w1 ⟨rfl, hb⟩
  obtain ⟨⟨q0, q1, q2, q3⟩, ⟨f0, f1, f2, f3⟩, z, b⟩ := after4 (w := w) (B := w.heap.size) (w.heap.size + 1 + 1) hb (by go_grown) (by simp; omega) (by simp) (by go_cell) (by go_cell) (by go_cell) (by go_cell) (by go_cell) (by go_cell) (by go_cell) (by go_cell)
  clear hb
  go_wp2
  refine bodyPost_ret (by simp [results, Tryd.results35, go_sem, q0, q1, q2, q3]; try rfl) rfl ⟨rfl, ?_⟩
  go_grown

set_option maxRecDepth 100000 in
set_option maxHeartbeats 1000000 in
theorem byte_far (k0 k1 k2 k3 : Nat) (Va : Value) (a0 a1 a2 a3 : Nat) (ea : Va = .agg #[.int .u64 a0, .int .u64 a1, .int .u64 a2, .int .u64 a3]) (w : World)
    (hS : ∀ w, Calls Tryd.prog 52 #[.agg #[.int .u64 k0, .int .u64 k1, .int .u64 k2, .int .u64 k3]] w fun e w' => e = .returned (.tuple #[.int .u64 0, .bool false]) ∧ Below w.heap.size w w') :
    Calls Tryd.prog 35 #[.agg #[.int .u64 k0, .int .u64 k1, .int .u64 k2, .int .u64 k3], Va] w fun e w' => e = .returned (.agg #[.int .u64 0, .int .u64 0, .int .u64 0, .int .u64 0]) ∧ Below w.heap.size w w' := by
  subst ea
  go_enter Tryd.func35, Tryd.ntmps35
  go_wp2_with fail
  refine (hS _).mono ?_
  rintro e w1 ⟨rfl, hb⟩
  obtain ⟨⟨q0, q1, q2, q3⟩, ⟨f0, f1, f2, f3⟩, z, b⟩ := after4 (w := w) (B := w.heap.size) (w.heap.size + 1 + 1) hb (by go_grown) (by simp; omega) (by simp) (by go_cell) (by go_cell) (by go_cell) (by go_cell) (by go_cell) (by go_cell) (by go_cell) (by go_cell)
  clear hb
  go_wp2
  refine bodyPost_ret (by simp [results, Tryd.results35, go_sem, q0, q1, q2, q3]; try rfl) rfl ⟨rfl, ?_⟩
  go_grown

/-- What Byte comes to. -/
def byteN (k x : Nat) : Nat := if k % 115792089237316195423570985008687907853269984665640564039457584007913129639936 ≤ 31 then bt x (k % 115792089237316195423570985008687907853269984665640564039457584007913129639936) else 0
-- WHAT Byte COMES TO.
theorem byte_any (k x : Nat) (w : World) :
    Calls Tryd.prog 35 #[wv k, wv x] w fun e w' => e = .returned (wv (byteN k x)) ∧ Below w.heap.size w w' := by
  have hS := fun w => small_any k w
  have hB := fun w => bytes_any x w
  obtain ⟨k0, k1, k2, k3, -, -, -, -, ek, -⟩ := wv_parts k
  obtain ⟨a0, a1, a2, a3, -, -, -, -, ea, -⟩ := wv_parts x
  unfold byteN
  generalize k % 115792089237316195423570985008687907853269984665640564039457584007913129639936 = n at *
  rw [ek] at hS
  rw [ek]
  by_cases h1 : n < 18446744073709551616
  · rw [if_pos h1, decide_eq_true h1] at hS
    by_cases h2 : n ≤ 31
    · rw [if_pos h2]
      rw [ea] at hB
      rw [ea]
      rw [wv_small (by have := bt_le x n; omega)]
      exact byte_in k0 k1 k2 k3 a0 a1 a2 a3 n (bt x n) _ (by omega) (by have := bt_le x n; omega) w hS hB (fun w => index32 (bt x) n (by omega) w)
    · rw [if_neg h2, wv_zero]
      exact byte_out k0 k1 k2 k3 n _ a0 a1 a2 a3 ea (by omega) w hS
  · rw [if_neg h1, decide_eq_false h1] at hS
    rw [if_neg (by omega), wv_zero]
    exact byte_far k0 k1 k2 k3 _ a0 a1 a2 a3 ea w hS
end Go.Proofs.YthfadinocadhaaaDoor

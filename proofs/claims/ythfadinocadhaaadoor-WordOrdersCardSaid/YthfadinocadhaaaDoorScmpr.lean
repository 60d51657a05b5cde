/- What bailiwickref01.SCmp comes to, called with any two words. -/
import Derived.Test.YthfadinocadhaaaDoorScmp
namespace Go.Proofs.YthfadinocadhaaaDoor
open Go.RowKit

set_option maxRecDepth 100000 in
set_option maxHeartbeats 1000000 in
theorem scmpr_true_true (a0 a1 a2 a3 b0 b1 b2 b3 p0 p1 p2 p3 q0 q1 q2 q3 : Nat) (r : Value) (w : World)
    (h1 : ∀ w, Calls Tryd.prog 73 #[.agg #[.int .u64 a0, .int .u64 a1, .int .u64 a2, .int .u64 a3]] w fun e w' => e = .returned (.tuple #[.bool true, .agg #[.int .u64 p0, .int .u64 p1, .int .u64 p2, .int .u64 p3]]) ∧ Below w.heap.size w w')
    (h2 : ∀ w, Calls Tryd.prog 73 #[.agg #[.int .u64 b0, .int .u64 b1, .int .u64 b2, .int .u64 b3]] w fun e w' => e = .returned (.tuple #[.bool true, .agg #[.int .u64 q0, .int .u64 q1, .int .u64 q2, .int .u64 q3]]) ∧ Below w.heap.size w w')
    (hC : ∀ w, Calls Tryd.prog 48 #[.agg #[.int .u64 a0, .int .u64 a1, .int .u64 a2, .int .u64 a3], .agg #[.int .u64 b0, .int .u64 b1, .int .u64 b2, .int .u64 b3]] w fun e w' => e = .returned r ∧ Below w.heap.size w w') :
    Calls Tryd.prog 49 #[.agg #[.int .u64 a0, .int .u64 a1, .int .u64 a2, .int .u64 a3], .agg #[.int .u64 b0, .int .u64 b1, .int .u64 b2, .int .u64 b3]] w fun e w' => e = .returned (r) ∧ Below w.heap.size w w' := by
  go_enter Tryd.func49, Tryd.ntmps49
  go_wp2_with fail
  refine (h1 _).mono ?_
  rintro e w1 ⟨rfl, hb⟩
  obtain ⟨x0, -, -⟩ := after1 (b := w.heap.size) (i := 0) (v := .int .u64 a0) hb (by first | (simp; done) | (simp; omega)) (by go_cell) (by go_cell)
  obtain ⟨x1, -, -⟩ := after1 (b := w.heap.size) (i := 1) (v := .int .u64 a1) hb (by first | (simp; done) | (simp; omega)) (by go_cell) (by go_cell)
  obtain ⟨x2, -, -⟩ := after1 (b := w.heap.size) (i := 2) (v := .int .u64 a2) hb (by first | (simp; done) | (simp; omega)) (by go_cell) (by go_cell)
  obtain ⟨x3, -, -⟩ := after1 (b := w.heap.size) (i := 3) (v := .int .u64 a3) hb (by first | (simp; done) | (simp; omega)) (by go_cell) (by go_cell)
  obtain ⟨y0, -, -⟩ := after1 (b := w.heap.size + 1) (i := 0) (v := .int .u64 b0) hb (by first | (simp; done) | (simp; omega)) (by go_cell) (by go_cell)
  obtain ⟨y1, -, -⟩ := after1 (b := w.heap.size + 1) (i := 1) (v := .int .u64 b1) hb (by first | (simp; done) | (simp; omega)) (by go_cell) (by go_cell)
  obtain ⟨y2, -, -⟩ := after1 (b := w.heap.size + 1) (i := 2) (v := .int .u64 b2) hb (by first | (simp; done) | (simp; omega)) (by go_cell) (by go_cell)
  obtain ⟨y3, -, -⟩ := after1 (b := w.heap.size + 1) (i := 3) (v := .int .u64 b3) hb (by first | (simp; done) | (simp; omega)) (by go_cell) (by go_cell)
  have hz : w.heap.size + 1 < w1.heap.size := by have h := hb.size; simp at h; omega
  have hz' : w.heap.size < w1.heap.size := by omega
  have hb1 : Below w.heap.size w w1 := Below.trans (by go_grown) (hb.mono (by simp; omega))
  clear hb h1
  go_wp2_with fail
  refine (h2 _).mono ?_
  rintro e w2 ⟨rfl, hb⟩
  have xx : ∀ i v, w1.cell? ⟨w.heap.size, i, none⟩ = some v → w2.cell? ⟨w.heap.size, i, none⟩ = some v := fun i v h => (hb.cell (p := ⟨w.heap.size, i, none⟩) (by simp; omega)).trans (by go_cell)
  have yy : ∀ i v, w1.cell? ⟨w.heap.size + 1, i, none⟩ = some v → w2.cell? ⟨w.heap.size + 1, i, none⟩ = some v := fun i v h => (hb.cell (p := ⟨w.heap.size + 1, i, none⟩) (by simp; omega)).trans (by go_cell)
  have s0 := xx _ _ x0
  have u0 := yy _ _ y0
  have s1 := xx _ _ x1
  have u1 := yy _ _ y1
  have s2 := xx _ _ x2
  have u2 := yy _ _ y2
  have s3 := xx _ _ x3
  have u3 := yy _ _ y3
  clear xx yy
  have hz2 : w.heap.size + 1 < w2.heap.size := by have h := hb.size; simp at h; omega
  have hz2' : w.heap.size < w2.heap.size := by omega
  have hb2 : Below w.heap.size w w2 := Below.trans (by go_grown) (hb.mono (by simp; omega))
  clear hb h2 hb1 hz hz' x0 x1 x2 x3 y0 y1 y2 y3
  go_wp2_with fail
  refine (hC _).mono ?_
  rintro e w3 ⟨rfl, hb⟩
  have hb3 : Below w.heap.size w w3 := Below.trans (by go_grown) (hb.mono (by simp; omega))
  clear hb
  go_wp2
  go_ret
  exact ⟨rfl, hb3⟩

set_option maxRecDepth 100000 in
set_option maxHeartbeats 1000000 in
theorem scmpr_true_false (a0 a1 a2 a3 b0 b1 b2 b3 p0 p1 p2 p3 q0 q1 q2 q3 : Nat) (w : World)
    (h1 : ∀ w, Calls Tryd.prog 73 #[.agg #[.int .u64 a0, .int .u64 a1, .int .u64 a2, .int .u64 a3]] w fun e w' => e = .returned (.tuple #[.bool true, .agg #[.int .u64 p0, .int .u64 p1, .int .u64 p2, .int .u64 p3]]) ∧ Below w.heap.size w w')
    (h2 : ∀ w, Calls Tryd.prog 73 #[.agg #[.int .u64 b0, .int .u64 b1, .int .u64 b2, .int .u64 b3]] w fun e w' => e = .returned (.tuple #[.bool false, .agg #[.int .u64 q0, .int .u64 q1, .int .u64 q2, .int .u64 q3]]) ∧ Below w.heap.size w w') :
    Calls Tryd.prog 49 #[.agg #[.int .u64 a0, .int .u64 a1, .int .u64 a2, .int .u64 a3], .agg #[.int .u64 b0, .int .u64 b1, .int .u64 b2, .int .u64 b3]] w fun e w' => e = .returned (.int .i64 (-1)) ∧ Below w.heap.size w w' := by
  go_enter Tryd.func49, Tryd.ntmps49
  go_wp2_with fail
  refine (h1 _).mono ?_
  rintro e w1 ⟨rfl, hb⟩
  obtain ⟨y0, -, -⟩ := after1 (b := w.heap.size + 1) (i := 0) (v := .int .u64 b0) hb (by first | (simp; done) | (simp; omega)) (by go_cell) (by go_cell)
  obtain ⟨y1, -, -⟩ := after1 (b := w.heap.size + 1) (i := 1) (v := .int .u64 b1) hb (by first | (simp; done) | (simp; omega)) (by go_cell) (by go_cell)
  obtain ⟨y2, -, -⟩ := after1 (b := w.heap.size + 1) (i := 2) (v := .int .u64 b2) hb (by first | (simp; done) | (simp; omega)) (by go_cell) (by go_cell)
  obtain ⟨y3, -, -⟩ := after1 (b := w.heap.size + 1) (i := 3) (v := .int .u64 b3) hb (by first | (simp; done) | (simp; omega)) (by go_cell) (by go_cell)
  have hz : w.heap.size + 1 < w1.heap.size := by have h := hb.size; simp at h; omega
  have hz' : w.heap.size < w1.heap.size := by omega
  have hb1 : Below w.heap.size w w1 := Below.trans (by go_grown) (hb.mono (by simp; omega))
  clear hb h1
  go_wp2_with fail
  refine (h2 _).mono ?_
  rintro e w2 ⟨rfl, hb⟩
  have hz2 : w.heap.size + 1 < w2.heap.size := by have h := hb.size; simp at h; omega
  have hz2' : w.heap.size < w2.heap.size := by omega
  have hb2 : Below w.heap.size w w2 := Below.trans (by go_grown) (hb.mono (by simp; omega))
  clear hb h2 hb1 hz hz' y0 y1 y2 y3
  go_wp2
  go_ret
  exact ⟨rfl, by go_grown⟩

set_option maxRecDepth 100000 in
set_option maxHeartbeats 1000000 in
theorem scmpr_false_true (a0 a1 a2 a3 b0 b1 b2 b3 p0 p1 p2 p3 q0 q1 q2 q3 : Nat) (w : World)
    (h1 : ∀ w, Calls Tryd.prog 73 #[.agg #[.int .u64 a0, .int .u64 a1, .int .u64 a2, .int .u64 a3]] w fun e w' => e = .returned (.tuple #[.bool false, .agg #[.int .u64 p0, .int .u64 p1, .int .u64 p2, .int .u64 p3]]) ∧ Below w.heap.size w w')
    (h2 : ∀ w, Calls Tryd.prog 73 #[.agg #[.int .u64 b0, .int .u64 b1, .int .u64 b2, .int .u64 b3]] w fun e w' => e = .returned (.tuple #[.bool true, .agg #[.int .u64 q0, .int .u64 q1, .int .u64 q2, .int .u64 q3]]) ∧ Below w.heap.size w w') :
    Calls Tryd.prog 49 #[.agg #[.int .u64 a0, .int .u64 a1, .int .u64 a2, .int .u64 a3], .agg #[.int .u64 b0, .int .u64 b1, .int .u64 b2, .int .u64 b3]] w fun e w' => e = .returned (.int .i64 1) ∧ Below w.heap.size w w' := by
  go_enter Tryd.func49, Tryd.ntmps49
  go_wp2_with fail
  refine (h1 _).mono ?_
  rintro e w1 ⟨rfl, hb⟩
  obtain ⟨y0, -, -⟩ := after1 (b := w.heap.size + 1) (i := 0) (v := .int .u64 b0) hb (by first | (simp; done) | (simp; omega)) (by go_cell) (by go_cell)
  obtain ⟨y1, -, -⟩ := after1 (b := w.heap.size + 1) (i := 1) (v := .int .u64 b1) hb (by first | (simp; done) | (simp; omega)) (by go_cell) (by go_cell)
  obtain ⟨y2, -, -⟩ := after1 (b := w.heap.size + 1) (i := 2) (v := .int .u64 b2) hb (by first | (simp; done) | (simp; omega)) (by go_cell) (by go_cell)
  obtain ⟨y3, -, -⟩ := after1 (b := w.heap.size + 1) (i := 3) (v := .int .u64 b3) hb (by first | (simp; done) | (simp; omega)) (by go_cell) (by go_cell)
  have hz : w.heap.size + 1 < w1.heap.size := by have h := hb.size; simp at h; omega
  have hz' : w.heap.size < w1.heap.size := by omega
  have hb1 : Below w.heap.size w w1 := Below.trans (by go_grown) (hb.mono (by simp; omega))
  clear hb h1
  go_wp2_with fail
  refine (h2 _).mono ?_
  rintro e w2 ⟨rfl, hb⟩
  have hz2 : w.heap.size + 1 < w2.heap.size := by have h := hb.size; simp at h; omega
  have hz2' : w.heap.size < w2.heap.size := by omega
  have hb2 : Below w.heap.size w w2 := Below.trans (by go_grown) (hb.mono (by simp; omega))
  clear hb h2 hb1 hz hz' y0 y1 y2 y3
  go_wp2
  go_ret
  exact ⟨rfl, by go_grown⟩

set_option maxRecDepth 100000 in
set_option maxHeartbeats 1000000 in
theorem scmpr_false_false (a0 a1 a2 a3 b0 b1 b2 b3 p0 p1 p2 p3 q0 q1 q2 q3 : Nat) (r : Value) (w : World)
    (h1 : ∀ w, Calls Tryd.prog 73 #[.agg #[.int .u64 a0, .int .u64 a1, .int .u64 a2, .int .u64 a3]] w fun e w' => e = .returned (.tuple #[.bool false, .agg #[.int .u64 p0, .int .u64 p1, .int .u64 p2, .int .u64 p3]]) ∧ Below w.heap.size w w')
    (h2 : ∀ w, Calls Tryd.prog 73 #[.agg #[.int .u64 b0, .int .u64 b1, .int .u64 b2, .int .u64 b3]] w fun e w' => e = .returned (.tuple #[.bool false, .agg #[.int .u64 q0, .int .u64 q1, .int .u64 q2, .int .u64 q3]]) ∧ Below w.heap.size w w')
    (hC : ∀ w, Calls Tryd.prog 48 #[.agg #[.int .u64 a0, .int .u64 a1, .int .u64 a2, .int .u64 a3], .agg #[.int .u64 b0, .int .u64 b1, .int .u64 b2, .int .u64 b3]] w fun e w' => e = .returned r ∧ Below w.heap.size w w') :
    Calls Tryd.prog 49 #[.agg #[.int .u64 a0, .int .u64 a1, .int .u64 a2, .int .u64 a3], .agg #[.int .u64 b0, .int .u64 b1, .int .u64 b2, .int .u64 b3]] w fun e w' => e = .returned (r) ∧ Below w.heap.size w w' := by
  go_enter Tryd.func49, Tryd.ntmps49
  go_wp2_with fail
  refine (h1 _).mono ?_
  rintro e w1 ⟨rfl, hb⟩
  obtain ⟨x0, -, -⟩ := after1 (b := w.heap.size) (i := 0) (v := .int .u64 a0) hb (by first | (simp; done) | (simp; omega)) (by go_cell) (by go_cell)
  obtain ⟨x1, -, -⟩ := after1 (b := w.heap.size) (i := 1) (v := .int .u64 a1) hb (by first | (simp; done) | (simp; omega)) (by go_cell) (by go_cell)
  obtain ⟨x2, -, -⟩ := after1 (b := w.heap.size) (i := 2) (v := .int .u64 a2) hb (by first | (simp; done) | (simp; omega)) (by go_cell) (by go_cell)
  obtain ⟨x3, -, -⟩ := after1 (b := w.heap.size) (i := 3) (v := .int .u64 a3) hb (by first | (simp; done) | (simp; omega)) (by go_cell) (by go_cell)
  obtain ⟨y0, -, -⟩ := after1 (b := w.heap.size + 1) (i := 0) (v := .int .u64 b0) hb (by first | (simp; done) | (simp; omega)) (by go_cell) (by go_cell)
  obtain ⟨y1, -, -⟩ := after1 (b := w.heap.size + 1) (i := 1) (v := .int .u64 b1) hb (by first | (simp; done) | (simp; omega)) (by go_cell) (by go_cell)
  obtain ⟨y2, -, -⟩ := after1 (b := w.heap.size + 1) (i := 2) (v := .int .u64 b2) hb (by first | (simp; done) | (simp; omega)) (by go_cell) (by go_cell)
  obtain ⟨y3, -, -⟩ := after1 (b := w.heap.size + 1) (i := 3) (v := .int .u64 b3) hb (by first | (simp; done) | (simp; omega)) (by go_cell) (by go_cell)
  have hz : w.heap.size + 1 < w1.heap.size := by have h := hb.size; simp at h; omega
  have hz' : w.heap.size < w1.heap.size := by omega
  have hb1 : Below w.heap.size w w1 := Below.trans (by go_grown) (hb.mono (by simp; omega))
  clear hb h1
  go_wp2_with fail
  refine (h2 _).mono ?_
  rintro e w2 ⟨rfl, hb⟩
  have xx : ∀ i v, w1.cell? ⟨w.heap.size, i, none⟩ = some v → w2.cell? ⟨w.heap.size, i, none⟩ = some v := fun i v h => (hb.cell (p := ⟨w.heap.size, i, none⟩) (by simp; omega)).trans (by go_cell)
  have yy : ∀ i v, w1.cell? ⟨w.heap.size + 1, i, none⟩ = some v → w2.cell? ⟨w.heap.size + 1, i, none⟩ = some v := fun i v h => (hb.cell (p := ⟨w.heap.size + 1, i, none⟩) (by simp; omega)).trans (by go_cell)
  have s0 := xx _ _ x0
  have u0 := yy _ _ y0
  have s1 := xx _ _ x1
  have u1 := yy _ _ y1
  have s2 := xx _ _ x2
  have u2 := yy _ _ y2
  have s3 := xx _ _ x3
  have u3 := yy _ _ y3
  clear xx yy
  have hz2 : w.heap.size + 1 < w2.heap.size := by have h := hb.size; simp at h; omega
  have hz2' : w.heap.size < w2.heap.size := by omega
  have hb2 : Below w.heap.size w w2 := Below.trans (by go_grown) (hb.mono (by simp; omega))
  clear hb h2 hb1 hz hz' x0 x1 x2 x3 y0 y1 y2 y3
  go_wp2_with fail
  refine (hC _).mono ?_
  rintro e w3 ⟨rfl, hb⟩
  have hb3 : Below w.heap.size w w3 := Below.trans (by go_grown) (hb.mono (by simp; omega))
  clear hb
  go_wp2
  go_ret
  exact ⟨rfl, hb3⟩

-- WHAT bailiwickref01.SCmp COMES TO.
theorem scmp_ref (x y : Nat) (w : World) : Calls Tryd.prog 49 #[.agg (pw x), .agg (pw y)] w fun e w' => e = .returned (.int .i64 (sord x y)) ∧ Below w.heap.size w w' := by
  have h1 := fun w => signed_ref x w
  have h2 := fun w => signed_ref y w
  have h3 := fun w => cmp_ref x y w
  have hx : negB x = decide (57896044618658097711785492504343953926634992332820282019728792003956564819968 ≤ x % 115792089237316195423570985008687907853269984665640564039457584007913129639936) := rfl
  have hy : negB y = decide (57896044618658097711785492504343953926634992332820282019728792003956564819968 ≤ y % 115792089237316195423570985008687907853269984665640564039457584007913129639936) := rfl
  have hxl : x % 115792089237316195423570985008687907853269984665640564039457584007913129639936 < 115792089237316195423570985008687907853269984665640564039457584007913129639936 := Nat.mod_lt _ (by omega)
  have hyl : y % 115792089237316195423570985008687907853269984665640564039457584007913129639936 < 115792089237316195423570985008687907853269984665640564039457584007913129639936 := Nat.mod_lt _ (by omega)
  obtain ⟨a0, a1, a2, a3, -, -, -, -, ea, -⟩ := wv_parts x
  obtain ⟨b0, b1, b2, b3, -, -, -, -, eb, -⟩ := wv_parts y
  obtain ⟨p0, p1, p2, p3, -, -, -, -, ep, -⟩ := wv_parts (if negB x then 115792089237316195423570985008687907853269984665640564039457584007913129639936 - x % 115792089237316195423570985008687907853269984665640564039457584007913129639936 else x)
  obtain ⟨q0, q1, q2, q3, -, -, -, -, eq, -⟩ := wv_parts (if negB y then 115792089237316195423570985008687907853269984665640564039457584007913129639936 - y % 115792089237316195423570985008687907853269984665640564039457584007913129639936 else y)
  rw [ea, ep] at h1
  rw [eb, eq] at h2
  have ea' : Value.agg (pw x) = .agg #[.int .u64 a0, .int .u64 a1, .int .u64 a2, .int .u64 a3] := ea
  have eb' : Value.agg (pw y) = .agg #[.int .u64 b0, .int .u64 b1, .int .u64 b2, .int .u64 b3] := eb
  rw [ea', eb'] at h3 ⊢
  clear ep eq ea eb ea' eb'
  unfold sord
  generalize x % 115792089237316195423570985008687907853269984665640564039457584007913129639936 = X at *
  generalize y % 115792089237316195423570985008687907853269984665640564039457584007913129639936 = Y at *
  by_cases c1 : 57896044618658097711785492504343953926634992332820282019728792003956564819968 ≤ X
  · rw [decide_eq_true c1] at hx
    rw [hx] at h1
    by_cases c2 : 57896044618658097711785492504343953926634992332820282019728792003956564819968 ≤ Y
    · rw [decide_eq_true c2] at hy
      rw [hy] at h2
      have e : ord ((X + 57896044618658097711785492504343953926634992332820282019728792003956564819968) % 115792089237316195423570985008687907853269984665640564039457584007913129639936) ((Y + 57896044618658097711785492504343953926634992332820282019728792003956564819968) % 115792089237316195423570985008687907853269984665640564039457584007913129639936) = ord X Y := by
        unfold ord
        have e1 : (X + 57896044618658097711785492504343953926634992332820282019728792003956564819968) % 115792089237316195423570985008687907853269984665640564039457584007913129639936 = X - 57896044618658097711785492504343953926634992332820282019728792003956564819968 := by omega
        have e2 : (Y + 57896044618658097711785492504343953926634992332820282019728792003956564819968) % 115792089237316195423570985008687907853269984665640564039457584007913129639936 = Y - 57896044618658097711785492504343953926634992332820282019728792003956564819968 := by omega
        rw [e1, e2]
        by_cases l1 : X < Y
        · rw [if_pos l1, if_pos (by omega)]
        · rw [if_neg l1, if_neg (by omega)]
          by_cases l2 : Y < X
          · rw [if_pos l2, if_pos (by omega)]
          · rw [if_neg l2, if_neg (by omega)]
      rw [e]
      exact scmpr_true_true a0 a1 a2 a3 b0 b1 b2 b3 p0 p1 p2 p3 q0 q1 q2 q3 _ w h1 h2 h3
    · rw [decide_eq_false c2] at hy
      rw [hy] at h2
      have e : ord ((X + 57896044618658097711785492504343953926634992332820282019728792003956564819968) % 115792089237316195423570985008687907853269984665640564039457584007913129639936) ((Y + 57896044618658097711785492504343953926634992332820282019728792003956564819968) % 115792089237316195423570985008687907853269984665640564039457584007913129639936) = -1 := by
        unfold ord
        rw [if_pos (by omega)]
      rw [e]
      exact scmpr_true_false a0 a1 a2 a3 b0 b1 b2 b3 p0 p1 p2 p3 q0 q1 q2 q3 w h1 h2
  · rw [decide_eq_false c1] at hx
    rw [hx] at h1
    by_cases c2 : 57896044618658097711785492504343953926634992332820282019728792003956564819968 ≤ Y
    · rw [decide_eq_true c2] at hy
      rw [hy] at h2
      have e : ord ((X + 57896044618658097711785492504343953926634992332820282019728792003956564819968) % 115792089237316195423570985008687907853269984665640564039457584007913129639936) ((Y + 57896044618658097711785492504343953926634992332820282019728792003956564819968) % 115792089237316195423570985008687907853269984665640564039457584007913129639936) = 1 := by
        unfold ord
        rw [if_neg (by omega), if_pos (by omega)]
      rw [e]
      exact scmpr_false_true a0 a1 a2 a3 b0 b1 b2 b3 p0 p1 p2 p3 q0 q1 q2 q3 w h1 h2
    · rw [decide_eq_false c2] at hy
      rw [hy] at h2
      have e : ord ((X + 57896044618658097711785492504343953926634992332820282019728792003956564819968) % 115792089237316195423570985008687907853269984665640564039457584007913129639936) ((Y + 57896044618658097711785492504343953926634992332820282019728792003956564819968) % 115792089237316195423570985008687907853269984665640564039457584007913129639936) = ord X Y := by
        unfold ord
        have e1 : (X + 57896044618658097711785492504343953926634992332820282019728792003956564819968) % 115792089237316195423570985008687907853269984665640564039457584007913129639936 = X + 57896044618658097711785492504343953926634992332820282019728792003956564819968 := by omega
        have e2 : (Y + 57896044618658097711785492504343953926634992332820282019728792003956564819968) % 115792089237316195423570985008687907853269984665640564039457584007913129639936 = Y + 57896044618658097711785492504343953926634992332820282019728792003956564819968 := by omega
        rw [e1, e2]
        by_cases l1 : X < Y
        · rw [if_pos l1, if_pos (by omega)]
        · rw [if_neg l1, if_neg (by omega)]
          by_cases l2 : Y < X
          · rw [if_pos l2, if_pos (by omega)]
          · rw [if_neg l2, if_neg (by omega)]
      rw [e]
      exact scmpr_false_false a0 a1 a2 a3 b0 b1 b2 b3 p0 p1 p2 p3 q0 q1 q2 q3 _ w h1 h2 h3
end Go.Proofs.YthfadinocadhaaaDoor

/- What word.Shl comes to. -/
import Derived.Test.YthfadinocadhaaaDoorSteps
import Derived.Test.YthfadinocadhaaaDoorShiftNum
import Derived.StillTailTactics
namespace Go.Proofs.YthfadinocadhaaaDoor
open Go.RowKit

theorem part_neg (i : Int) (b : Nat) (h : i < 0) (w : World) : Calls Tryd.prog 81 #[.int .i64 i, .pointer (some ⟨b, 0, none⟩)] w fun e w' => e = .returned (.int .u64 0) ∧ w' = w := by
  go_enter Tryd.func81, Tryd.ntmps81
  go_wp2
  go_ret
  exact ⟨rfl, rfl⟩
theorem part_at (i b : Nat) (v : Value) (h0 : (0 : Int) ≤ i) (h : (i : Int) < 4) (w : World) (hc : w.cell? ⟨b, i, none⟩ = some v) : Calls Tryd.prog 81 #[.int .i64 i, .pointer (some ⟨b, 0, none⟩)] w fun e w' => e = .returned v ∧ w' = w := by
  go_enter Tryd.func81, Tryd.ntmps81
  go_wp2
  go_ret
  exact ⟨rfl, rfl⟩

/-- A region of reads and quiet calls ahead of one store: in the text's order, behind one draw. -/
theorem region_still {P : Program} {id : Nat} {Q : Exit → Act → World → Prop} {a : Act} {w : World} {l : List Oper} (n : Nat) (hm : P.follows .mixedOrders = true) (hB : Region.lexTailB .any l.toArray n = true)
    (h : wpStill P l.toArray w.drew (fun a' => wpList P l.toArray Q (l.drop n) a' w.drew) (l.take n) a) : (Code.region id l.toArray true).wp P Q a w := wp_region_still_tail n hm hB h

set_option maxRecDepth 100000 in
set_option maxHeartbeats 2000000 in
theorem shl_walk (k0 k1 k2 k3 a0 a1 a2 a3 pm p0 p1 p2 p3 s t : Nat) (wh jm j0 j1 j2 j3 : Int) (h0 : (0 : Int) ≤ s) (h64 : (s : Int) < 64)
    (ht : IntKind.i64.wrap (64 - (s : Int)) = (t : Int)) (ht64 : (t : Int) ≤ 64)
    (e0 : IntKind.i64.wrap (-wh) = j0) (e1 : IntKind.i64.wrap (1 - wh) = j1) (e2 : IntKind.i64.wrap (2 - wh) = j2) (e3 : IntKind.i64.wrap (3 - wh) = j3)
    (g0 : IntKind.i64.wrap (j0 - 1) = jm) (g1 : IntKind.i64.wrap (j1 - 1) = j0) (g2 : IntKind.i64.wrap (j2 - 1) = j1) (g3 : IntKind.i64.wrap (j3 - 1) = j2) (w : World)
    (hC : ∀ (b : Nat) (W : World), W.cell? ⟨b, 0, none⟩ = some (.int .u64 a0) → W.cell? ⟨b, 1, none⟩ = some (.int .u64 a1) → W.cell? ⟨b, 2, none⟩ = some (.int .u64 a2) → W.cell? ⟨b, 3, none⟩ = some (.int .u64 a3) →
      (Calls Tryd.prog 81 #[.int .i64 jm, .pointer (some ⟨b, 0, none⟩)] W fun e w' => e = .returned (.int .u64 pm) ∧ w' = W) ∧
      (Calls Tryd.prog 81 #[.int .i64 j0, .pointer (some ⟨b, 0, none⟩)] W fun e w' => e = .returned (.int .u64 p0) ∧ w' = W) ∧
      (Calls Tryd.prog 81 #[.int .i64 j1, .pointer (some ⟨b, 0, none⟩)] W fun e w' => e = .returned (.int .u64 p1) ∧ w' = W) ∧
      (Calls Tryd.prog 81 #[.int .i64 j2, .pointer (some ⟨b, 0, none⟩)] W fun e w' => e = .returned (.int .u64 p2) ∧ w' = W) ∧
      (Calls Tryd.prog 81 #[.int .i64 j3, .pointer (some ⟨b, 0, none⟩)] W fun e w' => e = .returned (.int .u64 p3) ∧ w' = W))
    (hS : ∀ w, Calls Tryd.prog 80 #[.agg #[.int .u64 k0, .int .u64 k1, .int .u64 k2, .int .u64 k3]] w fun e w' => e = .returned (.tuple #[.int .i64 wh, .int .i64 s]) ∧ Below w.heap.size w w') :
    Calls Tryd.prog 37 #[.agg #[.int .u64 k0, .int .u64 k1, .int .u64 k2, .int .u64 k3], .agg #[.int .u64 a0, .int .u64 a1, .int .u64 a2, .int .u64 a3]] w fun e w' => 
      e = .returned (.agg #[.int .u64 (bits .or .u64 (IntKind.u64.wrap ((p0 : Int) * 2 ^ s)) ((pm : Int) / 2 ^ t)), .int .u64 (bits .or .u64 (IntKind.u64.wrap ((p1 : Int) * 2 ^ s)) ((p0 : Int) / 2 ^ t)), .int .u64 (bits .or .u64 (IntKind.u64.wrap ((p2 : Int) * 2 ^ s)) ((p1 : Int) / 2 ^ t)), .int .u64 (bits .or .u64 (IntKind.u64.wrap ((p3 : Int) * 2 ^ s)) ((p2 : Int) / 2 ^ t))]) ∧ Below w.heap.size w w' := by
  have HC := Lib.hid hC; clear hC
  have G0 := Lib.hid g0; clear g0
  have G1 := Lib.hid g1; clear g1
  have G2 := Lib.hid g2; clear g2
  have G3 := Lib.hid g3; clear g3
  go_enter Tryd.func37, Tryd.ntmps37
  go_wp2_with fail
  refine (hS _).mono ?_
  rintro e w1 ⟨rfl, hb⟩
  obtain ⟨x0, -, -⟩ := after1 (b := w.heap.size + 1) (i := 0) (v := .int .u64 a0) hb (by simp) (by go_cell) (by go_cell)
  obtain ⟨x1, -, -⟩ := after1 (b := w.heap.size + 1) (i := 1) (v := .int .u64 a1) hb (by simp) (by go_cell) (by go_cell)
  obtain ⟨x2, -, -⟩ := after1 (b := w.heap.size + 1) (i := 2) (v := .int .u64 a2) hb (by simp) (by go_cell) (by go_cell)
  obtain ⟨x3, -, -⟩ := after1 (b := w.heap.size + 1) (i := 3) (v := .int .u64 a3) hb (by simp) (by go_cell) (by go_cell)
  obtain ⟨⟨q0, q1, q2, q3⟩, ⟨f0, f1, f2, f3⟩, hz, hb'⟩ := after4 (w := w) (B := w.heap.size) (w.heap.size + 1 + 1) hb (by go_grown) (by simp; omega) (by simp) (by go_cell) (by go_cell) (by go_cell) (by go_cell) (by go_cell) (by go_cell) (by go_cell) (by go_cell)
  clear hb
  have hz1 : w.heap.size + 1 < w1.heap.size := by omega
  go_wp2
  refine wp_loop_rounds 5 ?_
  rw [rounds_succ]; go_wp2
  refine region_still 19 (by kernel_rfl) (by kernel_rfl) ?_
  simp only [List.take_succ_cons, List.take_zero, List.drop_succ_cons, List.drop_zero]
  repeat still_step
  still_call (HC.out (w.heap.size + 1) _ (by go_cell) (by go_cell) (by go_cell) (by go_cell)).2.1
  have g := G0.out
  repeat still_step
  clear g
  still_call (HC.out (w.heap.size + 1) _ (by go_cell) (by go_cell) (by go_cell) (by go_cell)).1
  repeat still_step
  refine wpStill_nil ?_
  go_wp2
  rw [rounds_succ]; go_wp2
  refine region_still 19 (by kernel_rfl) (by kernel_rfl) ?_
  simp only [List.take_succ_cons, List.take_zero, List.drop_succ_cons, List.drop_zero]
  repeat still_step
  still_call (HC.out (w.heap.size + 1) _ (by go_cell) (by go_cell) (by go_cell) (by go_cell)).2.2.1
  have g := G1.out
  repeat still_step
  clear g
  still_call (HC.out (w.heap.size + 1) _ (by go_cell) (by go_cell) (by go_cell) (by go_cell)).2.1
  repeat still_step
  refine wpStill_nil ?_
  go_wp2
  rw [rounds_succ]; go_wp2
  refine region_still 19 (by kernel_rfl) (by kernel_rfl) ?_
  simp only [List.take_succ_cons, List.take_zero, List.drop_succ_cons, List.drop_zero]
  repeat still_step
  still_call (HC.out (w.heap.size + 1) _ (by go_cell) (by go_cell) (by go_cell) (by go_cell)).2.2.2.1
  have g := G2.out
  repeat still_step
  clear g
  still_call (HC.out (w.heap.size + 1) _ (by go_cell) (by go_cell) (by go_cell) (by go_cell)).2.2.1
  repeat still_step
  refine wpStill_nil ?_
  go_wp2
  rw [rounds_succ]; go_wp2
  refine region_still 19 (by kernel_rfl) (by kernel_rfl) ?_
  simp only [List.take_succ_cons, List.take_zero, List.drop_succ_cons, List.drop_zero]
  repeat still_step
  still_call (HC.out (w.heap.size + 1) _ (by go_cell) (by go_cell) (by go_cell) (by go_cell)).2.2.2.2
  have g := G3.out
  repeat still_step
  clear g
  still_call (HC.out (w.heap.size + 1) _ (by go_cell) (by go_cell) (by go_cell) (by go_cell)).2.2.2.1
  repeat still_step
  refine wpStill_nil ?_
  go_wp2
  rw [rounds_succ]; go_wp2
  refine bodyPost_ret (by simp [results, Tryd.results37, go_sem, hz, q0, q1, q2, q3]; try rfl) rfl ⟨rfl, ?_⟩
  go_grown

end Go.Proofs.YthfadinocadhaaaDoor

/- BLAKE2b: what a round comes to. -/
import Derived.Test.YtoeomlmnejhgpaaDoorBMix
namespace Go.Proofs.YtoeomlmnejhgpaaDoor
open Go.RowKit

/-- Nothing that was there has turned but the block V. -/
structure Bt (V : Nat) (w w' : World) : Prop where
  os : w'.os = w.os
  tape : w'.tape = w.tape
  output : w'.output = w.output
  size : w.heap.size ≤ w'.heap.size
  block : ∀ k, k ≠ V → k < w.heap.size → w'.heap[k]? = w.heap[k]?
theorem Bt.refl (V : Nat) (w : World) : Bt V w w := ⟨rfl, rfl, rfl, Nat.le_refl _, fun _ _ _ => rfl⟩
theorem Bt.trans {V : Nat} {w w' w'' : World} (h : Bt V w w') (h' : Bt V w' w'') : Bt V w w'' :=
  ⟨h'.os.trans h.os, h'.tape.trans h.tape, h'.output.trans h.output, Nat.le_trans h.size h'.size, fun k hk hl => (h'.block k hk (Nat.lt_of_lt_of_le hl h.size)).trans (h.block k hk hl)⟩
theorem Bt.of_but {V : Nat} {w w' : World} (h : But V w w') : Bt V w w' := ⟨h.os, h.tape, h.output, Nat.le_of_eq h.size.symm, fun k hk _ => h.block k hk⟩
theorem Bt.of_below {V : Nat} {w w' : World} (h : Below w.heap.size w w') : Bt V w w' := ⟨h.os, h.tape, h.output, h.size, fun k _ hl => h.block k hl⟩
theorem Bt.below {V B : Nat} {w0 w w' : World} (h0 : Below B w0 w) (h : Bt V w w') (hB : B ≤ V) (hl : B ≤ w.heap.size) : Below B w0 w' :=
  h0.trans ⟨h.os, h.tape, h.output, h.size, fun k hk => h.block k (by omega) (by omega)⟩
/-- A round of mixes. -/
def rnd (v m : Nat → Int) : Nat → Int :=
  mxv (mxv (mxv (mxv (mxv (mxv (mxv (mxv v 0 4 8 12 (m 0) (m 1)) 1 5 9 13 (m 2) (m 3)) 2 6 10 14 (m 4) (m 5)) 3 7 11 15 (m 6) (m 7)) 0 5 10 15 (m 8) (m 9)) 1 6 11 12 (m 10) (m 11)) 2 7 8 13 (m 12) (m 13)) 3 4 9 14 (m 14) (m 15)
/-- The worlds of a round. -/
structure CR (w : World) (V : Nat) (v m : Nat → Int) (wx : World) : Prop where
  bt : Bt V w wx
  row : wx.heap[V]? = some (.cells (ar .u64 16 v) 99 (0, 0))
  rm : wx.heap[w.heap.size]? = some (.cells (ar .u64 16 m) 55 (0, 0))
  hV : V < w.heap.size
theorem CR.drew {w wx : World} {V : Nat} {v m : Nat → Int} (c : CR w V v m wx) : CR w V v m wx.drew := ⟨⟨c.bt.os, c.bt.tape, c.bt.output, c.bt.size, c.bt.block⟩, c.row, c.rm, c.hV⟩
theorem CR.at_ {w wx : World} {V : Nat} {v m : Nat → Int} (c : CR w V v m wx) (j : Nat) (hj : j < 16) : (Instr.loadAt 34 (.pointer (some ⟨w.heap.size, j, none⟩))).run Tryd.prog wx = .ok (.int .u64 (m j)) wx := load_u64 _ _ _ _ (cell_row16 c.rm j hj)
theorem CR.next {w wx w' : World} {V : Nat} {v v' m : Nat → Int} (c : CR w V v m wx) (h : CV wx V v' w') : CR w V v' m w' := by
  have hv := c.hV
  exact ⟨c.bt.trans (Bt.of_but h.but), h.row, (h.but.block _ (by omega)).trans c.rm, hv⟩
set_option maxRecDepth 100000 in
set_option maxHeartbeats 4000000 in
-- WHAT A ROUND COMES TO.
theorem bround_any (V : Nat) (v m : Nat → Int) (w : World) (hw : w.heap[V]? = some (.cells (ar .u64 16 v) 99 (0, 0))) :
    Calls Tryd.prog 65 #[.pointer (some ⟨V, 0, none⟩), .agg (ar .u64 16 m)] w fun e w' => e = .returned (.tuple #[]) ∧ Bt V w w' ∧ w'.heap[V]? = some (.cells (ar .u64 16 (rnd v m)) 99 (0, 0)) := by
  have hV : V < w.heap.size := (Array.getElem?_eq_some_iff.1 hw).1
  have H0 := Lib.hid (show CR w V v m (w.alloc (.cells (ar .u64 16 m) 55)) from ⟨Bt.of_below ((Below.refl _ _).alloc (Nat.le_refl _) _), (heap_alloc_old _ _ hV).trans hw, heap_alloc_new _ _, hV⟩)
  have HF := Lib.hid (show rnd v m = rnd v m from rfl)
  clear hw
  go_enter Tryd.func65, Tryd.ntmps65
  -- mix 0
  go_wp2_with fail
  refine region_quiet_tail 16 (CR w V v m) (by kernel_rfl) (by kernel_rfl) H0.out.drew ?_
  simp only [List.take_succ_cons, List.take_zero, List.drop_succ_cons, List.drop_zero]
  with_reducible refine q_val (.pointer (some ⟨V, 0, none⟩)) (by kernel_rfl) (fun _ _ => by kernel_rfl) ?_
  with_reducible refine q_val (.pointer (some ⟨V, 0, none⟩)) (by kernel_rfl) (fun _ _ => by kernel_rfl) ?_
  with_reducible refine q_val (.pointer (some ⟨V, 0, none⟩)) (by kernel_rfl) (fun _ _ => by kernel_rfl) ?_
  with_reducible refine q_val (.pointer (some ⟨V, 0, none⟩)) (by kernel_rfl) (fun _ _ => by kernel_rfl) ?_
  with_reducible refine q_val (.pointer (some ⟨V, 0, none⟩)) (by kernel_rfl) (fun _ _ => by kernel_rfl) ?_
  with_reducible refine q_val (.pointer (some ⟨V, 4, none⟩)) (by kernel_rfl) (fun _ _ => by kernel_rfl) ?_
  with_reducible refine q_val (.pointer (some ⟨V, 0, none⟩)) (by kernel_rfl) (fun _ _ => by kernel_rfl) ?_
  with_reducible refine q_val (.pointer (some ⟨V, 0, none⟩)) (by kernel_rfl) (fun _ _ => by kernel_rfl) ?_
  with_reducible refine q_val (.pointer (some ⟨V, 8, none⟩)) (by kernel_rfl) (fun _ _ => by kernel_rfl) ?_
  with_reducible refine q_val (.pointer (some ⟨V, 0, none⟩)) (by kernel_rfl) (fun _ _ => by kernel_rfl) ?_
  with_reducible refine q_val (.pointer (some ⟨V, 0, none⟩)) (by kernel_rfl) (fun _ _ => by kernel_rfl) ?_
  with_reducible refine q_val (.pointer (some ⟨V, 12, none⟩)) (by kernel_rfl) (fun _ _ => by kernel_rfl) ?_
  with_reducible refine q_val (.pointer (some ⟨w.heap.size, 0, none⟩)) (by kernel_rfl) (fun _ _ => by kernel_rfl) ?_
  with_reducible refine q_load 34 (.tmp 16) (.pointer (some ⟨w.heap.size, 0, none⟩)) (.int .u64 (m 0)) rfl (by kernel_rfl) (by kernel_rfl) (fun _ h => h.at_ 0 (by omega)) ?_
  with_reducible refine q_val (.pointer (some ⟨w.heap.size, 1, none⟩)) (by kernel_rfl) (fun _ _ => by kernel_rfl) ?_
  with_reducible refine q_load 34 (.tmp 18) (.pointer (some ⟨w.heap.size, 1, none⟩)) (.int .u64 (m 1)) rfl (by kernel_rfl) (by kernel_rfl) (fun _ h => h.at_ 1 (by omega)) ?_
  with_reducible refine wpQuiet_nil ?_
  intro w1 hC1
  simp only [Act.put, List.setIfInBounds_toArray, List.set_cons_succ, List.set_cons_zero]
  have HM1 := Lib.hid (bmix_any V 0 4 8 12 v (m 0) (m 1) (by omega) (by omega) (by omega) (by omega) (by omega) (by omega) (by omega) (by omega) (by omega) (by omega) w1 hC1.row)
  have HC1 := Lib.hid hC1
  clear hC1
  go_wp2_with fail
  refine HM1.out.mono ?_
  rintro e x1 ⟨rfl, hx1⟩
  have H1 := Lib.hid (HC1.out.next hx1)
  clear hx1 HM1 HC1
  obtain ⟨v1, hv1⟩ : ∃ f, mxv v 0 4 8 12 (m 0) (m 1) = f := ⟨_, rfl⟩
  rw [hv1] at H1
  -- mix 1
  go_wp2_with fail
  refine region_quiet_tail 16 (CR w V v1 m) (by kernel_rfl) (by kernel_rfl) H1.out.drew ?_
  simp only [List.take_succ_cons, List.take_zero, List.drop_succ_cons, List.drop_zero]
  with_reducible refine q_val (.pointer (some ⟨V, 0, none⟩)) (by kernel_rfl) (fun _ _ => by kernel_rfl) ?_
  with_reducible refine q_val (.pointer (some ⟨V, 0, none⟩)) (by kernel_rfl) (fun _ _ => by kernel_rfl) ?_
  with_reducible refine q_val (.pointer (some ⟨V, 1, none⟩)) (by kernel_rfl) (fun _ _ => by kernel_rfl) ?_
  with_reducible refine q_val (.pointer (some ⟨V, 0, none⟩)) (by kernel_rfl) (fun _ _ => by kernel_rfl) ?_
  with_reducible refine q_val (.pointer (some ⟨V, 0, none⟩)) (by kernel_rfl) (fun _ _ => by kernel_rfl) ?_
  with_reducible refine q_val (.pointer (some ⟨V, 5, none⟩)) (by kernel_rfl) (fun _ _ => by kernel_rfl) ?_
  with_reducible refine q_val (.pointer (some ⟨V, 0, none⟩)) (by kernel_rfl) (fun _ _ => by kernel_rfl) ?_
  with_reducible refine q_val (.pointer (some ⟨V, 0, none⟩)) (by kernel_rfl) (fun _ _ => by kernel_rfl) ?_
  with_reducible refine q_val (.pointer (some ⟨V, 9, none⟩)) (by kernel_rfl) (fun _ _ => by kernel_rfl) ?_
  with_reducible refine q_val (.pointer (some ⟨V, 0, none⟩)) (by kernel_rfl) (fun _ _ => by kernel_rfl) ?_
  with_reducible refine q_val (.pointer (some ⟨V, 0, none⟩)) (by kernel_rfl) (fun _ _ => by kernel_rfl) ?_
  with_reducible refine q_val (.pointer (some ⟨V, 13, none⟩)) (by kernel_rfl) (fun _ _ => by kernel_rfl) ?_
  with_reducible refine q_val (.pointer (some ⟨w.heap.size, 2, none⟩)) (by kernel_rfl) (fun _ _ => by kernel_rfl) ?_
  with_reducible refine q_load 34 (.tmp 33) (.pointer (some ⟨w.heap.size, 2, none⟩)) (.int .u64 (m 2)) rfl (by kernel_rfl) (by kernel_rfl) (fun _ h => h.at_ 2 (by omega)) ?_
  with_reducible refine q_val (.pointer (some ⟨w.heap.size, 3, none⟩)) (by kernel_rfl) (fun _ _ => by kernel_rfl) ?_
  with_reducible refine q_load 34 (.tmp 35) (.pointer (some ⟨w.heap.size, 3, none⟩)) (.int .u64 (m 3)) rfl (by kernel_rfl) (by kernel_rfl) (fun _ h => h.at_ 3 (by omega)) ?_
  with_reducible refine wpQuiet_nil ?_
  intro w2 hC2
  simp only [Act.put, List.setIfInBounds_toArray, List.set_cons_succ, List.set_cons_zero]
  have HM2 := Lib.hid (bmix_any V 1 5 9 13 v1 (m 2) (m 3) (by omega) (by omega) (by omega) (by omega) (by omega) (by omega) (by omega) (by omega) (by omega) (by omega) w2 hC2.row)
  have HC2 := Lib.hid hC2
  clear hC2
  go_wp2_with fail
  refine HM2.out.mono ?_
  rintro e x2 ⟨rfl, hx2⟩
  have H2 := Lib.hid (HC2.out.next hx2)
  clear hx2 HM2 HC2
  obtain ⟨v2, hv2⟩ : ∃ f, mxv v1 1 5 9 13 (m 2) (m 3) = f := ⟨_, rfl⟩
  rw [hv2] at H2
  -- mix 2
  go_wp2_with fail
  refine region_quiet_tail 16 (CR w V v2 m) (by kernel_rfl) (by kernel_rfl) H2.out.drew ?_
  simp only [List.take_succ_cons, List.take_zero, List.drop_succ_cons, List.drop_zero]
  with_reducible refine q_val (.pointer (some ⟨V, 0, none⟩)) (by kernel_rfl) (fun _ _ => by kernel_rfl) ?_
  with_reducible refine q_val (.pointer (some ⟨V, 0, none⟩)) (by kernel_rfl) (fun _ _ => by kernel_rfl) ?_
  with_reducible refine q_val (.pointer (some ⟨V, 2, none⟩)) (by kernel_rfl) (fun _ _ => by kernel_rfl) ?_
  with_reducible refine q_val (.pointer (some ⟨V, 0, none⟩)) (by kernel_rfl) (fun _ _ => by kernel_rfl) ?_
  with_reducible refine q_val (.pointer (some ⟨V, 0, none⟩)) (by kernel_rfl) (fun _ _ => by kernel_rfl) ?_
  with_reducible refine q_val (.pointer (some ⟨V, 6, none⟩)) (by kernel_rfl) (fun _ _ => by kernel_rfl) ?_
  with_reducible refine q_val (.pointer (some ⟨V, 0, none⟩)) (by kernel_rfl) (fun _ _ => by kernel_rfl) ?_
  with_reducible refine q_val (.pointer (some ⟨V, 0, none⟩)) (by kernel_rfl) (fun _ _ => by kernel_rfl) ?_
  with_reducible refine q_val (.pointer (some ⟨V, 10, none⟩)) (by kernel_rfl) (fun _ _ => by kernel_rfl) ?_
  with_reducible refine q_val (.pointer (some ⟨V, 0, none⟩)) (by kernel_rfl) (fun _ _ => by kernel_rfl) ?_
  with_reducible refine q_val (.pointer (some ⟨V, 0, none⟩)) (by kernel_rfl) (fun _ _ => by kernel_rfl) ?_
  with_reducible refine q_val (.pointer (some ⟨V, 14, none⟩)) (by kernel_rfl) (fun _ _ => by kernel_rfl) ?_
  with_reducible refine q_val (.pointer (some ⟨w.heap.size, 4, none⟩)) (by kernel_rfl) (fun _ _ => by kernel_rfl) ?_
  with_reducible refine q_load 34 (.tmp 50) (.pointer (some ⟨w.heap.size, 4, none⟩)) (.int .u64 (m 4)) rfl (by kernel_rfl) (by kernel_rfl) (fun _ h => h.at_ 4 (by omega)) ?_
  with_reducible refine q_val (.pointer (some ⟨w.heap.size, 5, none⟩)) (by kernel_rfl) (fun _ _ => by kernel_rfl) ?_
  with_reducible refine q_load 34 (.tmp 52) (.pointer (some ⟨w.heap.size, 5, none⟩)) (.int .u64 (m 5)) rfl (by kernel_rfl) (by kernel_rfl) (fun _ h => h.at_ 5 (by omega)) ?_
  with_reducible refine wpQuiet_nil ?_
  intro w3 hC3
  simp only [Act.put, List.setIfInBounds_toArray, List.set_cons_succ, List.set_cons_zero]
  have HM3 := Lib.hid (bmix_any V 2 6 10 14 v2 (m 4) (m 5) (by omega) (by omega) (by omega) (by omega) (by omega) (by omega) (by omega) (by omega) (by omega) (by omega) w3 hC3.row)
  have HC3 := Lib.hid hC3
  clear hC3
  go_wp2_with fail
  refine HM3.out.mono ?_
  rintro e x3 ⟨rfl, hx3⟩
  have H3 := Lib.hid (HC3.out.next hx3)
  clear hx3 HM3 HC3
  obtain ⟨v3, hv3⟩ : ∃ f, mxv v2 2 6 10 14 (m 4) (m 5) = f := ⟨_, rfl⟩
  rw [hv3] at H3
  -- mix 3
  go_wp2_with fail
  refine region_quiet_tail 16 (CR w V v3 m) (by kernel_rfl) (by kernel_rfl) H3.out.drew ?_
  simp only [List.take_succ_cons, List.take_zero, List.drop_succ_cons, List.drop_zero]
  with_reducible refine q_val (.pointer (some ⟨V, 0, none⟩)) (by kernel_rfl) (fun _ _ => by kernel_rfl) ?_
  with_reducible refine q_val (.pointer (some ⟨V, 0, none⟩)) (by kernel_rfl) (fun _ _ => by kernel_rfl) ?_
  with_reducible refine q_val (.pointer (some ⟨V, 3, none⟩)) (by kernel_rfl) (fun _ _ => by kernel_rfl) ?_
  with_reducible refine q_val (.pointer (some ⟨V, 0, none⟩)) (by kernel_rfl) (fun _ _ => by kernel_rfl) ?_
  with_reducible refine q_val (.pointer (some ⟨V, 0, none⟩)) (by kernel_rfl) (fun _ _ => by kernel_rfl) ?_
  with_reducible refine q_val (.pointer (some ⟨V, 7, none⟩)) (by kernel_rfl) (fun _ _ => by kernel_rfl) ?_
  with_reducible refine q_val (.pointer (some ⟨V, 0, none⟩)) (by kernel_rfl) (fun _ _ => by kernel_rfl) ?_
  with_reducible refine q_val (.pointer (some ⟨V, 0, none⟩)) (by kernel_rfl) (fun _ _ => by kernel_rfl) ?_
  with_reducible refine q_val (.pointer (some ⟨V, 11, none⟩)) (by kernel_rfl) (fun _ _ => by kernel_rfl) ?_
  with_reducible refine q_val (.pointer (some ⟨V, 0, none⟩)) (by kernel_rfl) (fun _ _ => by kernel_rfl) ?_
  with_reducible refine q_val (.pointer (some ⟨V, 0, none⟩)) (by kernel_rfl) (fun _ _ => by kernel_rfl) ?_
  with_reducible refine q_val (.pointer (some ⟨V, 15, none⟩)) (by kernel_rfl) (fun _ _ => by kernel_rfl) ?_
  with_reducible refine q_val (.pointer (some ⟨w.heap.size, 6, none⟩)) (by kernel_rfl) (fun _ _ => by kernel_rfl) ?_
  with_reducible refine q_load 34 (.tmp 67) (.pointer (some ⟨w.heap.size, 6, none⟩)) (.int .u64 (m 6)) rfl (by kernel_rfl) (by kernel_rfl) (fun _ h => h.at_ 6 (by omega)) ?_
  with_reducible refine q_val (.pointer (some ⟨w.heap.size, 7, none⟩)) (by kernel_rfl) (fun _ _ => by kernel_rfl) ?_
  with_reducible refine q_load 34 (.tmp 69) (.pointer (some ⟨w.heap.size, 7, none⟩)) (.int .u64 (m 7)) rfl (by kernel_rfl) (by kernel_rfl) (fun _ h => h.at_ 7 (by omega)) ?_
  with_reducible refine wpQuiet_nil ?_
  intro w4 hC4
  simp only [Act.put, List.setIfInBounds_toArray, List.set_cons_succ, List.set_cons_zero]
  have HM4 := Lib.hid (bmix_any V 3 7 11 15 v3 (m 6) (m 7) (by omega) (by omega) (by omega) (by omega) (by omega) (by omega) (by omega) (by omega) (by omega) (by omega) w4 hC4.row)
  have HC4 := Lib.hid hC4
  clear hC4
  go_wp2_with fail
  refine HM4.out.mono ?_
  rintro e x4 ⟨rfl, hx4⟩
  have H4 := Lib.hid (HC4.out.next hx4)
  clear hx4 HM4 HC4
  obtain ⟨v4, hv4⟩ : ∃ f, mxv v3 3 7 11 15 (m 6) (m 7) = f := ⟨_, rfl⟩
  rw [hv4] at H4
  -- mix 4
  go_wp2_with fail
  refine region_quiet_tail 16 (CR w V v4 m) (by kernel_rfl) (by kernel_rfl) H4.out.drew ?_
  simp only [List.take_succ_cons, List.take_zero, List.drop_succ_cons, List.drop_zero]
  with_reducible refine q_val (.pointer (some ⟨V, 0, none⟩)) (by kernel_rfl) (fun _ _ => by kernel_rfl) ?_
  with_reducible refine q_val (.pointer (some ⟨V, 0, none⟩)) (by kernel_rfl) (fun _ _ => by kernel_rfl) ?_
  with_reducible refine q_val (.pointer (some ⟨V, 0, none⟩)) (by kernel_rfl) (fun _ _ => by kernel_rfl) ?_
  with_reducible refine q_val (.pointer (some ⟨V, 0, none⟩)) (by kernel_rfl) (fun _ _ => by kernel_rfl) ?_
  with_reducible refine q_val (.pointer (some ⟨V, 0, none⟩)) (by kernel_rfl) (fun _ _ => by kernel_rfl) ?_
  with_reducible refine q_val (.pointer (some ⟨V, 5, none⟩)) (by kernel_rfl) (fun _ _ => by kernel_rfl) ?_
  with_reducible refine q_val (.pointer (some ⟨V, 0, none⟩)) (by kernel_rfl) (fun _ _ => by kernel_rfl) ?_
  with_reducible refine q_val (.pointer (some ⟨V, 0, none⟩)) (by kernel_rfl) (fun _ _ => by kernel_rfl) ?_
  with_reducible refine q_val (.pointer (some ⟨V, 10, none⟩)) (by kernel_rfl) (fun _ _ => by kernel_rfl) ?_
  with_reducible refine q_val (.pointer (some ⟨V, 0, none⟩)) (by kernel_rfl) (fun _ _ => by kernel_rfl) ?_
  with_reducible refine q_val (.pointer (some ⟨V, 0, none⟩)) (by kernel_rfl) (fun _ _ => by kernel_rfl) ?_
  with_reducible refine q_val (.pointer (some ⟨V, 15, none⟩)) (by kernel_rfl) (fun _ _ => by kernel_rfl) ?_
  with_reducible refine q_val (.pointer (some ⟨w.heap.size, 8, none⟩)) (by kernel_rfl) (fun _ _ => by kernel_rfl) ?_
  with_reducible refine q_load 34 (.tmp 84) (.pointer (some ⟨w.heap.size, 8, none⟩)) (.int .u64 (m 8)) rfl (by kernel_rfl) (by kernel_rfl) (fun _ h => h.at_ 8 (by omega)) ?_
  with_reducible refine q_val (.pointer (some ⟨w.heap.size, 9, none⟩)) (by kernel_rfl) (fun _ _ => by kernel_rfl) ?_
  with_reducible refine q_load 34 (.tmp 86) (.pointer (some ⟨w.heap.size, 9, none⟩)) (.int .u64 (m 9)) rfl (by kernel_rfl) (by kernel_rfl) (fun _ h => h.at_ 9 (by omega)) ?_
  with_reducible refine wpQuiet_nil ?_
  intro w5 hC5
  simp only [Act.put, List.setIfInBounds_toArray, List.set_cons_succ, List.set_cons_zero]
  have HM5 := Lib.hid (bmix_any V 0 5 10 15 v4 (m 8) (m 9) (by omega) (by omega) (by omega) (by omega) (by omega) (by omega) (by omega) (by omega) (by omega) (by omega) w5 hC5.row)
  have HC5 := Lib.hid hC5
  clear hC5
  go_wp2_with fail
  refine HM5.out.mono ?_
  rintro e x5 ⟨rfl, hx5⟩
  have H5 := Lib.hid (HC5.out.next hx5)
  clear hx5 HM5 HC5
  obtain ⟨v5, hv5⟩ : ∃ f, mxv v4 0 5 10 15 (m 8) (m 9) = f := ⟨_, rfl⟩
  rw [hv5] at H5
  -- mix 5
  go_wp2_with fail
  refine region_quiet_tail 16 (CR w V v5 m) (by kernel_rfl) (by kernel_rfl) H5.out.drew ?_
  simp only [List.take_succ_cons, List.take_zero, List.drop_succ_cons, List.drop_zero]
  with_reducible refine q_val (.pointer (some ⟨V, 0, none⟩)) (by kernel_rfl) (fun _ _ => by kernel_rfl) ?_
  with_reducible refine q_val (.pointer (some ⟨V, 0, none⟩)) (by kernel_rfl) (fun _ _ => by kernel_rfl) ?_
  with_reducible refine q_val (.pointer (some ⟨V, 1, none⟩)) (by kernel_rfl) (fun _ _ => by kernel_rfl) ?_
  with_reducible refine q_val (.pointer (some ⟨V, 0, none⟩)) (by kernel_rfl) (fun _ _ => by kernel_rfl) ?_
  with_reducible refine q_val (.pointer (some ⟨V, 0, none⟩)) (by kernel_rfl) (fun _ _ => by kernel_rfl) ?_
  with_reducible refine q_val (.pointer (some ⟨V, 6, none⟩)) (by kernel_rfl) (fun _ _ => by kernel_rfl) ?_
  with_reducible refine q_val (.pointer (some ⟨V, 0, none⟩)) (by kernel_rfl) (fun _ _ => by kernel_rfl) ?_
  with_reducible refine q_val (.pointer (some ⟨V, 0, none⟩)) (by kernel_rfl) (fun _ _ => by kernel_rfl) ?_
  with_reducible refine q_val (.pointer (some ⟨V, 11, none⟩)) (by kernel_rfl) (fun _ _ => by kernel_rfl) ?_
  with_reducible refine q_val (.pointer (some ⟨V, 0, none⟩)) (by kernel_rfl) (fun _ _ => by kernel_rfl) ?_
  with_reducible refine q_val (.pointer (some ⟨V, 0, none⟩)) (by kernel_rfl) (fun _ _ => by kernel_rfl) ?_
  with_reducible refine q_val (.pointer (some ⟨V, 12, none⟩)) (by kernel_rfl) (fun _ _ => by kernel_rfl) ?_
  with_reducible refine q_val (.pointer (some ⟨w.heap.size, 10, none⟩)) (by kernel_rfl) (fun _ _ => by kernel_rfl) ?_
  with_reducible refine q_load 34 (.tmp 101) (.pointer (some ⟨w.heap.size, 10, none⟩)) (.int .u64 (m 10)) rfl (by kernel_rfl) (by kernel_rfl) (fun _ h => h.at_ 10 (by omega)) ?_
  with_reducible refine q_val (.pointer (some ⟨w.heap.size, 11, none⟩)) (by kernel_rfl) (fun _ _ => by kernel_rfl) ?_
  with_reducible refine q_load 34 (.tmp 103) (.pointer (some ⟨w.heap.size, 11, none⟩)) (.int .u64 (m 11)) rfl (by kernel_rfl) (by kernel_rfl) (fun _ h => h.at_ 11 (by omega)) ?_
  with_reducible refine wpQuiet_nil ?_
  intro w6 hC6
  simp only [Act.put, List.setIfInBounds_toArray, List.set_cons_succ, List.set_cons_zero]
  have HM6 := Lib.hid (bmix_any V 1 6 11 12 v5 (m 10) (m 11) (by omega) (by omega) (by omega) (by omega) (by omega) (by omega) (by omega) (by omega) (by omega) (by omega) w6 hC6.row)
  have HC6 := Lib.hid hC6
  clear hC6
  go_wp2_with fail
  refine HM6.out.mono ?_
  rintro e x6 ⟨rfl, hx6⟩
  have H6 := Lib.hid (HC6.out.next hx6)
  clear hx6 HM6 HC6
  obtain ⟨v6, hv6⟩ : ∃ f, mxv v5 1 6 11 12 (m 10) (m 11) = f := ⟨_, rfl⟩
  rw [hv6] at H6
  -- mix 6
  go_wp2_with fail
  refine region_quiet_tail 16 (CR w V v6 m) (by kernel_rfl) (by kernel_rfl) H6.out.drew ?_
  simp only [List.take_succ_cons, List.take_zero, List.drop_succ_cons, List.drop_zero]
  with_reducible refine q_val (.pointer (some ⟨V, 0, none⟩)) (by kernel_rfl) (fun _ _ => by kernel_rfl) ?_
  with_reducible refine q_val (.pointer (some ⟨V, 0, none⟩)) (by kernel_rfl) (fun _ _ => by kernel_rfl) ?_
  with_reducible refine q_val (.pointer (some ⟨V, 2, none⟩)) (by kernel_rfl) (fun _ _ => by kernel_rfl) ?_
  with_reducible refine q_val (.pointer (some ⟨V, 0, none⟩)) (by kernel_rfl) (fun _ _ => by kernel_rfl) ?_
  with_reducible refine q_val (.pointer (some ⟨V, 0, none⟩)) (by kernel_rfl) (fun _ _ => by kernel_rfl) ?_
  with_reducible refine q_val (.pointer (some ⟨V, 7, none⟩)) (by kernel_rfl) (fun _ _ => by kernel_rfl) ?_
  with_reducible refine q_val (.pointer (some ⟨V, 0, none⟩)) (by kernel_rfl) (fun _ _ => by kernel_rfl) ?_
  with_reducible refine q_val (.pointer (some ⟨V, 0, none⟩)) (by kernel_rfl) (fun _ _ => by kernel_rfl) ?_
  with_reducible refine q_val (.pointer (some ⟨V, 8, none⟩)) (by kernel_rfl) (fun _ _ => by kernel_rfl) ?_
  with_reducible refine q_val (.pointer (some ⟨V, 0, none⟩)) (by kernel_rfl) (fun _ _ => by kernel_rfl) ?_
  with_reducible refine q_val (.pointer (some ⟨V, 0, none⟩)) (by kernel_rfl) (fun _ _ => by kernel_rfl) ?_
  with_reducible refine q_val (.pointer (some ⟨V, 13, none⟩)) (by kernel_rfl) (fun _ _ => by kernel_rfl) ?_
  with_reducible refine q_val (.pointer (some ⟨w.heap.size, 12, none⟩)) (by kernel_rfl) (fun _ _ => by kernel_rfl) ?_
  with_reducible refine q_load 34 (.tmp 118) (.pointer (some ⟨w.heap.size, 12, none⟩)) (.int .u64 (m 12)) rfl (by kernel_rfl) (by kernel_rfl) (fun _ h => h.at_ 12 (by omega)) ?_
  with_reducible refine q_val (.pointer (some ⟨w.heap.size, 13, none⟩)) (by kernel_rfl) (fun _ _ => by kernel_rfl) ?_
  with_reducible refine q_load 34 (.tmp 120) (.pointer (some ⟨w.heap.size, 13, none⟩)) (.int .u64 (m 13)) rfl (by kernel_rfl) (by kernel_rfl) (fun _ h => h.at_ 13 (by omega)) ?_
  with_reducible refine wpQuiet_nil ?_
  intro w7 hC7
  simp only [Act.put, List.setIfInBounds_toArray, List.set_cons_succ, List.set_cons_zero]
  have HM7 := Lib.hid (bmix_any V 2 7 8 13 v6 (m 12) (m 13) (by omega) (by omega) (by omega) (by omega) (by omega) (by omega) (by omega) (by omega) (by omega) (by omega) w7 hC7.row)
  have HC7 := Lib.hid hC7
  clear hC7
  go_wp2_with fail
  refine HM7.out.mono ?_
  rintro e x7 ⟨rfl, hx7⟩
  have H7 := Lib.hid (HC7.out.next hx7)
  clear hx7 HM7 HC7
  obtain ⟨v7, hv7⟩ : ∃ f, mxv v6 2 7 8 13 (m 12) (m 13) = f := ⟨_, rfl⟩
  rw [hv7] at H7
  -- mix 7
  go_wp2_with fail
  refine region_quiet_tail 16 (CR w V v7 m) (by kernel_rfl) (by kernel_rfl) H7.out.drew ?_
  simp only [List.take_succ_cons, List.take_zero, List.drop_succ_cons, List.drop_zero]
  with_reducible refine q_val (.pointer (some ⟨V, 0, none⟩)) (by kernel_rfl) (fun _ _ => by kernel_rfl) ?_
  with_reducible refine q_val (.pointer (some ⟨V, 0, none⟩)) (by kernel_rfl) (fun _ _ => by kernel_rfl) ?_
  with_reducible refine q_val (.pointer (some ⟨V, 3, none⟩)) (by kernel_rfl) (fun _ _ => by kernel_rfl) ?_
  with_reducible refine q_val (.pointer (some ⟨V, 0, none⟩)) (by kernel_rfl) (fun _ _ => by kernel_rfl) ?_
  with_reducible refine q_val (.pointer (some ⟨V, 0, none⟩)) (by kernel_rfl) (fun _ _ => by kernel_rfl) ?_
  with_reducible refine q_val (.pointer (some ⟨V, 4, none⟩)) (by kernel_rfl) (fun _ _ => by kernel_rfl) ?_
  with_reducible refine q_val (.pointer (some ⟨V, 0, none⟩)) (by kernel_rfl) (fun _ _ => by kernel_rfl) ?_
  with_reducible refine q_val (.pointer (some ⟨V, 0, none⟩)) (by kernel_rfl) (fun _ _ => by kernel_rfl) ?_
  with_reducible refine q_val (.pointer (some ⟨V, 9, none⟩)) (by kernel_rfl) (fun _ _ => by kernel_rfl) ?_
  with_reducible refine q_val (.pointer (some ⟨V, 0, none⟩)) (by kernel_rfl) (fun _ _ => by kernel_rfl) ?_
  with_reducible refine q_val (.pointer (some ⟨V, 0, none⟩)) (by kernel_rfl) (fun _ _ => by kernel_rfl) ?_
  with_reducible refine q_val (.pointer (some ⟨V, 14, none⟩)) (by kernel_rfl) (fun _ _ => by kernel_rfl) ?_
  with_reducible refine q_val (.pointer (some ⟨w.heap.size, 14, none⟩)) (by kernel_rfl) (fun _ _ => by kernel_rfl) ?_
  with_reducible refine q_load 34 (.tmp 135) (.pointer (some ⟨w.heap.size, 14, none⟩)) (.int .u64 (m 14)) rfl (by kernel_rfl) (by kernel_rfl) (fun _ h => h.at_ 14 (by omega)) ?_
  with_reducible refine q_val (.pointer (some ⟨w.heap.size, 15, none⟩)) (by kernel_rfl) (fun _ _ => by kernel_rfl) ?_
  with_reducible refine q_load 34 (.tmp 137) (.pointer (some ⟨w.heap.size, 15, none⟩)) (.int .u64 (m 15)) rfl (by kernel_rfl) (by kernel_rfl) (fun _ h => h.at_ 15 (by omega)) ?_
  with_reducible refine wpQuiet_nil ?_
  intro w8 hC8
  simp only [Act.put, List.setIfInBounds_toArray, List.set_cons_succ, List.set_cons_zero]
  have HM8 := Lib.hid (bmix_any V 3 4 9 14 v7 (m 14) (m 15) (by omega) (by omega) (by omega) (by omega) (by omega) (by omega) (by omega) (by omega) (by omega) (by omega) w8 hC8.row)
  have HC8 := Lib.hid hC8
  clear hC8
  go_wp2_with fail
  refine HM8.out.mono ?_
  rintro e x8 ⟨rfl, hx8⟩
  have H8 := Lib.hid (HC8.out.next hx8)
  clear hx8 HM8 HC8
  obtain ⟨v8, hv8⟩ : ∃ f, mxv v7 3 4 9 14 (m 14) (m 15) = f := ⟨_, rfl⟩
  rw [hv8] at H8
  have hr : rnd v m = v8 := by
    unfold rnd
    rw [hv1, hv2, hv3, hv4, hv5, hv6, hv7, hv8]
  go_wp2_with fail
  go_end0
  rw [hr]
  exact ⟨rfl, H8.out.bt, H8.out.row⟩
end Go.Proofs.YtoeomlmnejhgpaaDoor

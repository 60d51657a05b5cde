/- The permutation: what xorColumn comes to, at each of the five columns. The state's 25 numbers lie at the head of a row: in a block of their own, or ahead of what else a sponge holds. -/
import Derived.Test.YtcmpnnfnkcmpcaaDoorRArr
import Derived.Test.YtcmpnnfnkcmpcaaDoorTail
import Derived.Test.YtcmpnnfnkcmpcaaDoorQ
import Derived.StillTailTactics
import Derived.StillTactics
namespace Go.Proofs.YtcmpnnfnkcmpcaaDoor
open Go.RowKit

structure KBut (S : Nat) (w w' : World) : Prop where
  os : w'.os = w.os
  tape : w'.tape = w.tape
  output : w'.output = w.output
  size : w'.heap.size = w.heap.size
  block : ∀ k, k ≠ S → w'.heap[k]? = w.heap[k]?
  frozen : ∀ j, w'.frozen? ⟨S, j, none⟩ = w.frozen? ⟨S, j, none⟩
theorem KBut.refl (S : Nat) (w : World) : KBut S w w := ⟨rfl, rfl, rfl, rfl, fun _ _ => rfl, fun _ => rfl⟩
theorem KBut.set {S : Nat} {w w' : World} (h : KBut S w w') (j : Nat) (u : Value) : KBut S w (w'.setCell ⟨S, j, none⟩ u) :=
  ⟨h.os, h.tape, h.output, by simp [h.size], fun k hk => by rw [Below.heap_setCell _ _ _ _ hk]; exact h.block k hk, fun i => by rw [World.frozen?_setCell]; exact h.frozen i⟩
theorem KBut.trans {S : Nat} {w w' w'' : World} (h : KBut S w w') (h' : KBut S w' w'') : KBut S w w'' :=
  ⟨h'.os.trans h.os, h'.tape.trans h.tape, h'.output.trans h.output, h'.size.trans h.size, fun k hk => (h'.block k hk).trans (h.block k hk), fun j => (h'.frozen j).trans (h.frozen j)⟩
theorem KBut.cell {S : Nat} {w w' : World} (h : KBut S w w') {p : Addr} (hp : p.block ≠ S) : w'.cell? p = w.cell? p := World.cell?_of_block (w := w) (h.block p.block hp)
theorem KBut.below {S B : Nat} {w0 w w' : World} (h0 : Below B w0 w) (h : KBut S w w') (hB : B ≤ S) : Below B w0 w' :=
  h0.trans ⟨h.os, h.tape, h.output, by rw [h.size]; exact Nat.le_refl _, fun k hk => h.block k (by omega)⟩
theorem KBut.drew {S : Nat} {w w' : World} (h : KBut S w w') : KBut S w w'.drew := ⟨h.os, h.tape, h.output, h.size, h.block, h.frozen⟩
/-- 25 numbers ahead of a tail. -/
def kr (v : Nat → Int) (tl : Array Value) : Array Value := ar .u64 25 v ++ tl
theorem kr_at (v : Nat → Int) (tl : Array Value) (j : Nat) (h : j < 25) : (kr v tl)[j]? = some (.int .u64 (v j)) := by
  unfold kr
  rw [Array.getElem?_append_left (by rw [ar_size]; exact h)]
  exact ar_at _ _ _ _ h
theorem kr_set (v : Nat → Int) (tl : Array Value) (p : Nat) (y : Int) (h : p < 25) : (kr v tl).setIfInBounds p (.int .u64 y) = kr (updI v p y) tl := by
  unfold kr
  rw [← ar_set _ _ _ _ _ h, Array.setIfInBounds_append, if_pos (by rw [ar_size]; exact h)]
theorem kr_nil (v : Nat → Int) : kr v #[] = ar .u64 25 v := by simp [kr]
theorem kload (g j : Nat) (y : Int) (w : World) (h : w.cell? ⟨g, j, none⟩ = some (.int .u64 y)) : (Instr.loadAt 34 (.pointer (some ⟨g, j, none⟩))).run Tryd.prog w = .ok (.int .u64 y) w := by
  go_simp
/-- The worlds of the permutation: the block V holds these 25 ahead of the tail, the others are as they were. -/
structure CK (w : World) (V : Nat) (tt : TypeId) (tl : Array Value) (v : Nat → Int) (wx : World) : Prop where
  but : KBut V w wx
  row : wx.heap[V]? = some (.cells (kr v tl) tt (0, 0))
variable {w wx : World} {V : Nat} {tt : TypeId} {tl : Array Value} {v : Nat → Int}
theorem CK.drew (c : CK w V tt tl v wx) : CK w V tt tl v wx.drew := ⟨c.but.drew, c.row⟩
theorem CK.cell (c : CK w V tt tl v wx) (j : Nat) (hj : j < 25) : wx.cell? ⟨V, j, none⟩ = some (.int .u64 (v j)) :=
  (cell_of_row wx _ j _ _ _ c.row).trans (kr_at _ _ _ hj)
theorem CK.at' (c : CK w V tt tl v wx) (j : Nat) (hj : j < 25) (y : Int) (hy : v j = y) : (Instr.loadAt 34 (.pointer (some ⟨V, j, none⟩))).run Tryd.prog wx = .ok (.int .u64 y) wx := kload _ _ _ _ (by rw [← hy]; exact c.cell j hj)
theorem CK.set (c : CK w V tt tl v wx) (j : Nat) (hj : j < 25) (y : Int) : CK w V tt tl (updI v j y) (wx.setCell ⟨V, j, none⟩ (.int .u64 y)) :=
  ⟨c.but.set j _, (heap_setCell_same _ _ _ _ _ _ c.row).trans (by rw [kr_set _ _ _ _ hj])⟩
/-- The column x with a number laid over each of its five. -/
def xcv (v : Nat → Int) (x : Nat) (y : Int) (i : Nat) : Int := if i < 25 ∧ i % 5 = x then bits .xor .u64 (v i) y else v i
set_option maxRecDepth 100000 in
set_option maxHeartbeats 4000000 in
-- THE COLUMN 0.
theorem xcol0 (y : Int) (w : World) (hw : w.heap[V]? = some (.cells (kr v tl) tt (0, 0))) :
    Calls Tryd.prog 49 #[.pointer (some ⟨V, 0, none⟩), .int .i64 0, .int .u64 y] w fun e w' => e = .returned (.tuple #[]) ∧ CK w V tt tl (xcv v 0 y) w' := by
  have H0 := Lib.hid (show CK w V tt tl v w from ⟨KBut.refl _ _, hw⟩)
  clear hw
  go_enter Tryd.func49, Tryd.ntmps49
  -- region 0
  obtain ⟨Z0, hZ0⟩ : ∃ z, v 0 = z := ⟨_, rfl⟩
  go_wp2_with fail
  refine region_quiet_tail 9 (CK w V tt tl v) (by kernel_rfl) (by kernel_rfl) H0.out.drew ?_
  simp only [List.take_succ_cons, List.take_zero, List.drop_succ_cons, List.drop_zero]
  with_reducible refine q_val (.pointer (some ⟨V, 0, none⟩)) (by kernel_rfl) (fun _ _ => by kernel_rfl) ?_
  with_reducible refine q_val (.int .i64 0) (by kernel_rfl) (fun _ _ => by kernel_rfl) ?_
  with_reducible refine q_val (.pointer (some ⟨V, 0, none⟩)) (by kernel_rfl) (fun _ _ => by kernel_rfl) ?_
  with_reducible refine q_val (.pointer (some ⟨V, 0, none⟩)) (by kernel_rfl) (fun _ _ => by kernel_rfl) ?_
  with_reducible refine q_load 34 (.tmp 9) (.pointer (some ⟨V, 0, none⟩)) (.int .u64 Z0) rfl (by kernel_rfl) (by kernel_rfl) (fun _ h => h.at' 0 (by decide) _ hZ0) ?_
  with_reducible refine q_val (.int .u64 y) (by kernel_rfl) (fun _ _ => by kernel_rfl) ?_
  with_reducible refine q_val (.int .u64 (bits .xor .u64 Z0 y)) (by kernel_rfl) (fun _ _ => by kernel_rfl) ?_
  with_reducible refine q_val (.pointer (some ⟨V, 0, none⟩)) (by kernel_rfl) (fun _ _ => by kernel_rfl) ?_
  with_reducible refine q_val (.pointer (some ⟨V, 0, none⟩)) (by kernel_rfl) (fun _ _ => by kernel_rfl) ?_
  with_reducible refine wpQuiet_nil ?_
  intro w1 hCx
  simp only [Act.put, List.setIfInBounds_toArray, List.set_cons_succ, List.set_cons_zero]
  obtain ⟨Y0, hn0⟩ : ∃ z, bits .xor .u64 Z0 y = z := ⟨_, rfl⟩
  rw [hn0]
  have co0 := hCx.cell 0 (by decide)
  have fo0 := frozen_of_row _ _ 0 _ _ hCx.row
  have H1 := Lib.hid (hCx.set 0 (by decide) Y0)
  obtain ⟨v1, hv0⟩ : ∃ f, updI v 0 Y0 = f := ⟨_, rfl⟩
  rw [hv0] at H1
  clear hCx
  -- region 1
  obtain ⟨Z1, hZ1⟩ : ∃ z, v1 5 = z := ⟨_, rfl⟩
  go_wp2_with fail
  refine region_quiet_tail 10 (CK w V tt tl v1) (by kernel_rfl) (by kernel_rfl) H1.out.drew ?_
  simp only [List.take_succ_cons, List.take_zero, List.drop_succ_cons, List.drop_zero]
  with_reducible refine q_val (.pointer (some ⟨V, 0, none⟩)) (by kernel_rfl) (fun _ _ => by kernel_rfl) ?_
  with_reducible refine q_val (.int .i64 0) (by kernel_rfl) (fun _ _ => by kernel_rfl) ?_
  with_reducible refine q_val (.int .i64 5) (by kernel_rfl) (fun _ _ => by kernel_rfl) ?_
  with_reducible refine q_val (.pointer (some ⟨V, 0, none⟩)) (by kernel_rfl) (fun _ _ => by kernel_rfl) ?_
  with_reducible refine q_val (.pointer (some ⟨V, 5, none⟩)) (by kernel_rfl) (fun _ _ => by kernel_rfl) ?_
  with_reducible refine q_load 34 (.tmp 19) (.pointer (some ⟨V, 5, none⟩)) (.int .u64 Z1) rfl (by kernel_rfl) (by kernel_rfl) (fun _ h => h.at' 5 (by decide) _ hZ1) ?_
  with_reducible refine q_val (.int .u64 y) (by kernel_rfl) (fun _ _ => by kernel_rfl) ?_
  with_reducible refine q_val (.int .u64 (bits .xor .u64 Z1 y)) (by kernel_rfl) (fun _ _ => by kernel_rfl) ?_
  with_reducible refine q_val (.pointer (some ⟨V, 0, none⟩)) (by kernel_rfl) (fun _ _ => by kernel_rfl) ?_
  with_reducible refine q_val (.pointer (some ⟨V, 5, none⟩)) (by kernel_rfl) (fun _ _ => by kernel_rfl) ?_
  with_reducible refine wpQuiet_nil ?_
  intro w2 hCx
  simp only [Act.put, List.setIfInBounds_toArray, List.set_cons_succ, List.set_cons_zero]
  obtain ⟨Y1, hn1⟩ : ∃ z, bits .xor .u64 Z1 y = z := ⟨_, rfl⟩
  rw [hn1]
  have co1 := hCx.cell 5 (by decide)
  have fo1 := frozen_of_row _ _ 5 _ _ hCx.row
  have H2 := Lib.hid (hCx.set 5 (by decide) Y1)
  obtain ⟨v2, hv1⟩ : ∃ f, updI v1 5 Y1 = f := ⟨_, rfl⟩
  rw [hv1] at H2
  clear hCx
  -- region 2
  obtain ⟨Z2, hZ2⟩ : ∃ z, v2 10 = z := ⟨_, rfl⟩
  go_wp2_with fail
  refine region_quiet_tail 10 (CK w V tt tl v2) (by kernel_rfl) (by kernel_rfl) H2.out.drew ?_
  simp only [List.take_succ_cons, List.take_zero, List.drop_succ_cons, List.drop_zero]
  with_reducible refine q_val (.pointer (some ⟨V, 0, none⟩)) (by kernel_rfl) (fun _ _ => by kernel_rfl) ?_
  with_reducible refine q_val (.int .i64 0) (by kernel_rfl) (fun _ _ => by kernel_rfl) ?_
  with_reducible refine q_val (.int .i64 10) (by kernel_rfl) (fun _ _ => by kernel_rfl) ?_
  with_reducible refine q_val (.pointer (some ⟨V, 0, none⟩)) (by kernel_rfl) (fun _ _ => by kernel_rfl) ?_
  with_reducible refine q_val (.pointer (some ⟨V, 10, none⟩)) (by kernel_rfl) (fun _ _ => by kernel_rfl) ?_
  with_reducible refine q_load 34 (.tmp 29) (.pointer (some ⟨V, 10, none⟩)) (.int .u64 Z2) rfl (by kernel_rfl) (by kernel_rfl) (fun _ h => h.at' 10 (by decide) _ hZ2) ?_
  with_reducible refine q_val (.int .u64 y) (by kernel_rfl) (fun _ _ => by kernel_rfl) ?_
  with_reducible refine q_val (.int .u64 (bits .xor .u64 Z2 y)) (by kernel_rfl) (fun _ _ => by kernel_rfl) ?_
  with_reducible refine q_val (.pointer (some ⟨V, 0, none⟩)) (by kernel_rfl) (fun _ _ => by kernel_rfl) ?_
  with_reducible refine q_val (.pointer (some ⟨V, 10, none⟩)) (by kernel_rfl) (fun _ _ => by kernel_rfl) ?_
  with_reducible refine wpQuiet_nil ?_
  intro w3 hCx
  simp only [Act.put, List.setIfInBounds_toArray, List.set_cons_succ, List.set_cons_zero]
  obtain ⟨Y2, hn2⟩ : ∃ z, bits .xor .u64 Z2 y = z := ⟨_, rfl⟩
  rw [hn2]
  have co2 := hCx.cell 10 (by decide)
  have fo2 := frozen_of_row _ _ 10 _ _ hCx.row
  have H3 := Lib.hid (hCx.set 10 (by decide) Y2)
  obtain ⟨v3, hv2⟩ : ∃ f, updI v2 10 Y2 = f := ⟨_, rfl⟩
  rw [hv2] at H3
  clear hCx
  -- region 3
  obtain ⟨Z3, hZ3⟩ : ∃ z, v3 15 = z := ⟨_, rfl⟩
  go_wp2_with fail
  refine region_quiet_tail 10 (CK w V tt tl v3) (by kernel_rfl) (by kernel_rfl) H3.out.drew ?_
  simp only [List.take_succ_cons, List.take_zero, List.drop_succ_cons, List.drop_zero]
  with_reducible refine q_val (.pointer (some ⟨V, 0, none⟩)) (by kernel_rfl) (fun _ _ => by kernel_rfl) ?_
  with_reducible refine q_val (.int .i64 0) (by kernel_rfl) (fun _ _ => by kernel_rfl) ?_
  with_reducible refine q_val (.int .i64 15) (by kernel_rfl) (fun _ _ => by kernel_rfl) ?_
  with_reducible refine q_val (.pointer (some ⟨V, 0, none⟩)) (by kernel_rfl) (fun _ _ => by kernel_rfl) ?_
  with_reducible refine q_val (.pointer (some ⟨V, 15, none⟩)) (by kernel_rfl) (fun _ _ => by kernel_rfl) ?_
  with_reducible refine q_load 34 (.tmp 39) (.pointer (some ⟨V, 15, none⟩)) (.int .u64 Z3) rfl (by kernel_rfl) (by kernel_rfl) (fun _ h => h.at' 15 (by decide) _ hZ3) ?_
  with_reducible refine q_val (.int .u64 y) (by kernel_rfl) (fun _ _ => by kernel_rfl) ?_
  with_reducible refine q_val (.int .u64 (bits .xor .u64 Z3 y)) (by kernel_rfl) (fun _ _ => by kernel_rfl) ?_
  with_reducible refine q_val (.pointer (some ⟨V, 0, none⟩)) (by kernel_rfl) (fun _ _ => by kernel_rfl) ?_
  with_reducible refine q_val (.pointer (some ⟨V, 15, none⟩)) (by kernel_rfl) (fun _ _ => by kernel_rfl) ?_
  with_reducible refine wpQuiet_nil ?_
  intro w4 hCx
  simp only [Act.put, List.setIfInBounds_toArray, List.set_cons_succ, List.set_cons_zero]
  obtain ⟨Y3, hn3⟩ : ∃ z, bits .xor .u64 Z3 y = z := ⟨_, rfl⟩
  rw [hn3]
  have co3 := hCx.cell 15 (by decide)
  have fo3 := frozen_of_row _ _ 15 _ _ hCx.row
  have H4 := Lib.hid (hCx.set 15 (by decide) Y3)
  obtain ⟨v4, hv3⟩ : ∃ f, updI v3 15 Y3 = f := ⟨_, rfl⟩
  rw [hv3] at H4
  clear hCx
  -- region 4
  obtain ⟨Z4, hZ4⟩ : ∃ z, v4 20 = z := ⟨_, rfl⟩
  go_wp2_with fail
  refine region_quiet_tail 10 (CK w V tt tl v4) (by kernel_rfl) (by kernel_rfl) H4.out.drew ?_
  simp only [List.take_succ_cons, List.take_zero, List.drop_succ_cons, List.drop_zero]
  with_reducible refine q_val (.pointer (some ⟨V, 0, none⟩)) (by kernel_rfl) (fun _ _ => by kernel_rfl) ?_
  with_reducible refine q_val (.int .i64 0) (by kernel_rfl) (fun _ _ => by kernel_rfl) ?_
  with_reducible refine q_val (.int .i64 20) (by kernel_rfl) (fun _ _ => by kernel_rfl) ?_
  with_reducible refine q_val (.pointer (some ⟨V, 0, none⟩)) (by kernel_rfl) (fun _ _ => by kernel_rfl) ?_
  with_reducible refine q_val (.pointer (some ⟨V, 20, none⟩)) (by kernel_rfl) (fun _ _ => by kernel_rfl) ?_
  with_reducible refine q_load 34 (.tmp 49) (.pointer (some ⟨V, 20, none⟩)) (.int .u64 Z4) rfl (by kernel_rfl) (by kernel_rfl) (fun _ h => h.at' 20 (by decide) _ hZ4) ?_
  with_reducible refine q_val (.int .u64 y) (by kernel_rfl) (fun _ _ => by kernel_rfl) ?_
  with_reducible refine q_val (.int .u64 (bits .xor .u64 Z4 y)) (by kernel_rfl) (fun _ _ => by kernel_rfl) ?_
  with_reducible refine q_val (.pointer (some ⟨V, 0, none⟩)) (by kernel_rfl) (fun _ _ => by kernel_rfl) ?_
  with_reducible refine q_val (.pointer (some ⟨V, 20, none⟩)) (by kernel_rfl) (fun _ _ => by kernel_rfl) ?_
  with_reducible refine wpQuiet_nil ?_
  intro w5 hCx
  simp only [Act.put, List.setIfInBounds_toArray, List.set_cons_succ, List.set_cons_zero]
  obtain ⟨Y4, hn4⟩ : ∃ z, bits .xor .u64 Z4 y = z := ⟨_, rfl⟩
  rw [hn4]
  have co4 := hCx.cell 20 (by decide)
  have fo4 := frozen_of_row _ _ 20 _ _ hCx.row
  have H5 := Lib.hid (hCx.set 20 (by decide) Y4)
  obtain ⟨v5, hv4⟩ : ∃ f, updI v4 20 Y4 = f := ⟨_, rfl⟩
  rw [hv4] at H5
  clear hCx
  have hv : v5 = xcv v 0 y := by
    funext i
    subst hn0 hn1 hn2 hn3 hn4
    subst hZ0 hZ1 hZ2 hZ3 hZ4
    subst hv0 hv1 hv2 hv3 hv4
    unfold xcv updI
    by_cases h : i < 25 ∧ i % 5 = 0
    · rw [if_pos h]
      have hc : i = 0 ∨ i = 5 ∨ i = 10 ∨ i = 15 ∨ i = 20 := by omega
      rcases hc with rfl | rfl | rfl | rfl | rfl <;> rfl
    · rw [if_neg h, if_neg (by omega), if_neg (by omega), if_neg (by omega), if_neg (by omega), if_neg (by omega)]
  rw [hv] at H5
  go_wp2_with fail
  go_end0
  exact ⟨rfl, H5.out⟩
set_option maxRecDepth 100000 in
set_option maxHeartbeats 4000000 in
-- THE COLUMN 1.
theorem xcol1 (y : Int) (w : World) (hw : w.heap[V]? = some (.cells (kr v tl) tt (0, 0))) :
    Calls Tryd.prog 49 #[.pointer (some ⟨V, 0, none⟩), .int .i64 1, .int .u64 y] w fun e w' => e = .returned (.tuple #[]) ∧ CK w V tt tl (xcv v 1 y) w' := by
  have H0 := Lib.hid (show CK w V tt tl v w from ⟨KBut.refl _ _, hw⟩)
  clear hw
  go_enter Tryd.func49, Tryd.ntmps49
  -- region 0
  obtain ⟨Z0, hZ0⟩ : ∃ z, v 1 = z := ⟨_, rfl⟩
  go_wp2_with fail
  refine region_quiet_tail 9 (CK w V tt tl v) (by kernel_rfl) (by kernel_rfl) H0.out.drew ?_
  simp only [List.take_succ_cons, List.take_zero, List.drop_succ_cons, List.drop_zero]
  with_reducible refine q_val (.pointer (some ⟨V, 0, none⟩)) (by kernel_rfl) (fun _ _ => by kernel_rfl) ?_
  with_reducible refine q_val (.int .i64 1) (by kernel_rfl) (fun _ _ => by kernel_rfl) ?_
  with_reducible refine q_val (.pointer (some ⟨V, 0, none⟩)) (by kernel_rfl) (fun _ _ => by kernel_rfl) ?_
  with_reducible refine q_val (.pointer (some ⟨V, 1, none⟩)) (by kernel_rfl) (fun _ _ => by kernel_rfl) ?_
  with_reducible refine q_load 34 (.tmp 9) (.pointer (some ⟨V, 1, none⟩)) (.int .u64 Z0) rfl (by kernel_rfl) (by kernel_rfl) (fun _ h => h.at' 1 (by decide) _ hZ0) ?_
  with_reducible refine q_val (.int .u64 y) (by kernel_rfl) (fun _ _ => by kernel_rfl) ?_
  with_reducible refine q_val (.int .u64 (bits .xor .u64 Z0 y)) (by kernel_rfl) (fun _ _ => by kernel_rfl) ?_
  with_reducible refine q_val (.pointer (some ⟨V, 0, none⟩)) (by kernel_rfl) (fun _ _ => by kernel_rfl) ?_
  with_reducible refine q_val (.pointer (some ⟨V, 1, none⟩)) (by kernel_rfl) (fun _ _ => by kernel_rfl) ?_
  with_reducible refine wpQuiet_nil ?_
  intro w1 hCx
  simp only [Act.put, List.setIfInBounds_toArray, List.set_cons_succ, List.set_cons_zero]
  obtain ⟨Y0, hn0⟩ : ∃ z, bits .xor .u64 Z0 y = z := ⟨_, rfl⟩
  rw [hn0]
  have co0 := hCx.cell 1 (by decide)
  have fo0 := frozen_of_row _ _ 1 _ _ hCx.row
  have H1 := Lib.hid (hCx.set 1 (by decide) Y0)
  obtain ⟨v1, hv0⟩ : ∃ f, updI v 1 Y0 = f := ⟨_, rfl⟩
  rw [hv0] at H1
  clear hCx
  -- region 1
  obtain ⟨Z1, hZ1⟩ : ∃ z, v1 6 = z := ⟨_, rfl⟩
  go_wp2_with fail
  refine region_quiet_tail 10 (CK w V tt tl v1) (by kernel_rfl) (by kernel_rfl) H1.out.drew ?_
  simp only [List.take_succ_cons, List.take_zero, List.drop_succ_cons, List.drop_zero]
  with_reducible refine q_val (.pointer (some ⟨V, 0, none⟩)) (by kernel_rfl) (fun _ _ => by kernel_rfl) ?_
  with_reducible refine q_val (.int .i64 1) (by kernel_rfl) (fun _ _ => by kernel_rfl) ?_
  with_reducible refine q_val (.int .i64 6) (by kernel_rfl) (fun _ _ => by kernel_rfl) ?_
  with_reducible refine q_val (.pointer (some ⟨V, 0, none⟩)) (by kernel_rfl) (fun _ _ => by kernel_rfl) ?_
  with_reducible refine q_val (.pointer (some ⟨V, 6, none⟩)) (by kernel_rfl) (fun _ _ => by kernel_rfl) ?_
  with_reducible refine q_load 34 (.tmp 19) (.pointer (some ⟨V, 6, none⟩)) (.int .u64 Z1) rfl (by kernel_rfl) (by kernel_rfl) (fun _ h => h.at' 6 (by decide) _ hZ1) ?_
  with_reducible refine q_val (.int .u64 y) (by kernel_rfl) (fun _ _ => by kernel_rfl) ?_
  with_reducible refine q_val (.int .u64 (bits .xor .u64 Z1 y)) (by kernel_rfl) (fun _ _ => by kernel_rfl) ?_
  with_reducible refine q_val (.pointer (some ⟨V, 0, none⟩)) (by kernel_rfl) (fun _ _ => by kernel_rfl) ?_
  with_reducible refine q_val (.pointer (some ⟨V, 6, none⟩)) (by kernel_rfl) (fun _ _ => by kernel_rfl) ?_
  with_reducible refine wpQuiet_nil ?_
  intro w2 hCx
  simp only [Act.put, List.setIfInBounds_toArray, List.set_cons_succ, List.set_cons_zero]
  obtain ⟨Y1, hn1⟩ : ∃ z, bits .xor .u64 Z1 y = z := ⟨_, rfl⟩
  rw [hn1]
  have co1 := hCx.cell 6 (by decide)
  have fo1 := frozen_of_row _ _ 6 _ _ hCx.row
  have H2 := Lib.hid (hCx.set 6 (by decide) Y1)
  obtain ⟨v2, hv1⟩ : ∃ f, updI v1 6 Y1 = f := ⟨_, rfl⟩
  rw [hv1] at H2
  clear hCx
  -- region 2
  obtain ⟨Z2, hZ2⟩ : ∃ z, v2 11 = z := ⟨_, rfl⟩
  go_wp2_with fail
  refine region_quiet_tail 10 (CK w V tt tl v2) (by kernel_rfl) (by kernel_rfl) H2.out.drew ?_
  simp only [List.take_succ_cons, List.take_zero, List.drop_succ_cons, List.drop_zero]
  with_reducible refine q_val (.pointer (some ⟨V, 0, none⟩)) (by kernel_rfl) (fun _ _ => by kernel_rfl) ?_
  with_reducible refine q_val (.int .i64 1) (by kernel_rfl) (fun _ _ => by kernel_rfl) ?_
  with_reducible refine q_val (.int .i64 11) (by kernel_rfl) (fun _ _ => by kernel_rfl) ?_
  with_reducible refine q_val (.pointer (some ⟨V, 0, none⟩)) (by kernel_rfl) (fun _ _ => by kernel_rfl) ?_
  with_reducible refine q_val (.pointer (some ⟨V, 11, none⟩)) (by kernel_rfl) (fun _ _ => by kernel_rfl) ?_
  with_reducible refine q_load 34 (.tmp 29) (.pointer (some ⟨V, 11, none⟩)) (.int .u64 Z2) rfl (by kernel_rfl) (by kernel_rfl) (fun _ h => h.at' 11 (by decide) _ hZ2) ?_
  with_reducible refine q_val (.int .u64 y) (by kernel_rfl) (fun _ _ => by kernel_rfl) ?_
  with_reducible refine q_val (.int .u64 (bits .xor .u64 Z2 y)) (by kernel_rfl) (fun _ _ => by kernel_rfl) ?_
  with_reducible refine q_val (.pointer (some ⟨V, 0, none⟩)) (by kernel_rfl) (fun _ _ => by kernel_rfl) ?_
  with_reducible refine q_val (.pointer (some ⟨V, 11, none⟩)) (by kernel_rfl) (fun _ _ => by kernel_rfl) ?_
  with_reducible refine wpQuiet_nil ?_
  intro w3 hCx
  simp only [Act.put, List.setIfInBounds_toArray, List.set_cons_succ, List.set_cons_zero]
  obtain ⟨Y2, hn2⟩ : ∃ z, bits .xor .u64 Z2 y = z := ⟨_, rfl⟩
  rw [hn2]
  have co2 := hCx.cell 11 (by decide)
  have fo2 := frozen_of_row _ _ 11 _ _ hCx.row
  have H3 := Lib.hid (hCx.set 11 (by decide) Y2)
  obtain ⟨v3, hv2⟩ : ∃ f, updI v2 11 Y2 = f := ⟨_, rfl⟩
  rw [hv2] at H3
  clear hCx
  -- region 3
  obtain ⟨Z3, hZ3⟩ : ∃ z, v3 16 = z := ⟨_, rfl⟩
  go_wp2_with fail
  refine region_quiet_tail 10 (CK w V tt tl v3) (by kernel_rfl) (by kernel_rfl) H3.out.drew ?_
  simp only [List.take_succ_cons, List.take_zero, List.drop_succ_cons, List.drop_zero]
  with_reducible refine q_val (.pointer (some ⟨V, 0, none⟩)) (by kernel_rfl) (fun _ _ => by kernel_rfl) ?_
  with_reducible refine q_val (.int .i64 1) (by kernel_rfl) (fun _ _ => by kernel_rfl) ?_
  with_reducible refine q_val (.int .i64 16) (by kernel_rfl) (fun _ _ => by kernel_rfl) ?_
  with_reducible refine q_val (.pointer (some ⟨V, 0, none⟩)) (by kernel_rfl) (fun _ _ => by kernel_rfl) ?_
  with_reducible refine q_val (.pointer (some ⟨V, 16, none⟩)) (by kernel_rfl) (fun _ _ => by kernel_rfl) ?_
  with_reducible refine q_load 34 (.tmp 39) (.pointer (some ⟨V, 16, none⟩)) (.int .u64 Z3) rfl (by kernel_rfl) (by kernel_rfl) (fun _ h => h.at' 16 (by decide) _ hZ3) ?_
  with_reducible refine q_val (.int .u64 y) (by kernel_rfl) (fun _ _ => by kernel_rfl) ?_
  with_reducible refine q_val (.int .u64 (bits .xor .u64 Z3 y)) (by kernel_rfl) (fun _ _ => by kernel_rfl) ?_
  with_reducible refine q_val (.pointer (some ⟨V, 0, none⟩)) (by kernel_rfl) (fun _ _ => by kernel_rfl) ?_
  with_reducible refine q_val (.pointer (some ⟨V, 16, none⟩)) (by kernel_rfl) (fun _ _ => by kernel_rfl) ?_
  with_reducible refine wpQuiet_nil ?_
  intro w4 hCx
  simp only [Act.put, List.setIfInBounds_toArray, List.set_cons_succ, List.set_cons_zero]
  obtain ⟨Y3, hn3⟩ : ∃ z, bits .xor .u64 Z3 y = z := ⟨_, rfl⟩
  rw [hn3]
  have co3 := hCx.cell 16 (by decide)
  have fo3 := frozen_of_row _ _ 16 _ _ hCx.row
  have H4 := Lib.hid (hCx.set 16 (by decide) Y3)
  obtain ⟨v4, hv3⟩ : ∃ f, updI v3 16 Y3 = f := ⟨_, rfl⟩
  rw [hv3] at H4
  clear hCx
  -- region 4
  obtain ⟨Z4, hZ4⟩ : ∃ z, v4 21 = z := ⟨_, rfl⟩
  go_wp2_with fail
  refine region_quiet_tail 10 (CK w V tt tl v4) (by kernel_rfl) (by kernel_rfl) H4.out.drew ?_
  simp only [List.take_succ_cons, List.take_zero, List.drop_succ_cons, List.drop_zero]
  with_reducible refine q_val (.pointer (some ⟨V, 0, none⟩)) (by kernel_rfl) (fun _ _ => by kernel_rfl) ?_
  with_reducible refine q_val (.int .i64 1) (by kernel_rfl) (fun _ _ => by kernel_rfl) ?_
  with_reducible refine q_val (.int .i64 21) (by kernel_rfl) (fun _ _ => by kernel_rfl) ?_
  with_reducible refine q_val (.pointer (some ⟨V, 0, none⟩)) (by kernel_rfl) (fun _ _ => by kernel_rfl) ?_
  with_reducible refine q_val (.pointer (some ⟨V, 21, none⟩)) (by kernel_rfl) (fun _ _ => by kernel_rfl) ?_
  with_reducible refine q_load 34 (.tmp 49) (.pointer (some ⟨V, 21, none⟩)) (.int .u64 Z4) rfl (by kernel_rfl) (by kernel_rfl) (fun _ h => h.at' 21 (by decide) _ hZ4) ?_
  with_reducible refine q_val (.int .u64 y) (by kernel_rfl) (fun _ _ => by kernel_rfl) ?_
  with_reducible refine q_val (.int .u64 (bits .xor .u64 Z4 y)) (by kernel_rfl) (fun _ _ => by kernel_rfl) ?_
  with_reducible refine q_val (.pointer (some ⟨V, 0, none⟩)) (by kernel_rfl) (fun _ _ => by kernel_rfl) ?_
  with_reducible refine q_val (.pointer (some ⟨V, 21, none⟩)) (by kernel_rfl) (fun _ _ => by kernel_rfl) ?_
  with_reducible refine wpQuiet_nil ?_
  intro w5 hCx
  simp only [Act.put, List.setIfInBounds_toArray, List.set_cons_succ, List.set_cons_zero]
  obtain ⟨Y4, hn4⟩ : ∃ z, bits .xor .u64 Z4 y = z := ⟨_, rfl⟩
  rw [hn4]
  have co4 := hCx.cell 21 (by decide)
  have fo4 := frozen_of_row _ _ 21 _ _ hCx.row
  have H5 := Lib.hid (hCx.set 21 (by decide) Y4)
  obtain ⟨v5, hv4⟩ : ∃ f, updI v4 21 Y4 = f := ⟨_, rfl⟩
  rw [hv4] at H5
  clear hCx
  have hv : v5 = xcv v 1 y := by
    funext i
    subst hn0 hn1 hn2 hn3 hn4
    subst hZ0 hZ1 hZ2 hZ3 hZ4
    subst hv0 hv1 hv2 hv3 hv4
    unfold xcv updI
    by_cases h : i < 25 ∧ i % 5 = 1
    · rw [if_pos h]
      have hc : i = 1 ∨ i = 6 ∨ i = 11 ∨ i = 16 ∨ i = 21 := by omega
      rcases hc with rfl | rfl | rfl | rfl | rfl <;> rfl
    · rw [if_neg h, if_neg (by omega), if_neg (by omega), if_neg (by omega), if_neg (by omega), if_neg (by omega)]
  rw [hv] at H5
  go_wp2_with fail
  go_end0
  exact ⟨rfl, H5.out⟩
set_option maxRecDepth 100000 in
set_option maxHeartbeats 4000000 in
-- THE COLUMN 2.
theorem xcol2 (y : Int) (w : World) (hw : w.heap[V]? = some (.cells (kr v tl) tt (0, 0))) :
    Calls Tryd.prog 49 #[.pointer (some ⟨V, 0, none⟩), .int .i64 2, .int .u64 y] w fun e w' => e = .returned (.tuple #[]) ∧ CK w V tt tl (xcv v 2 y) w' := by
  have H0 := Lib.hid (show CK w V tt tl v w from ⟨KBut.refl _ _, hw⟩)
  clear hw
  go_enter Tryd.func49, Tryd.ntmps49
  -- region 0
  obtain ⟨Z0, hZ0⟩ : ∃ z, v 2 = z := ⟨_, rfl⟩
  go_wp2_with fail
  refine region_quiet_tail 9 (CK w V tt tl v) (by kernel_rfl) (by kernel_rfl) H0.out.drew ?_
  simp only [List.take_succ_cons, List.take_zero, List.drop_succ_cons, List.drop_zero]
  with_reducible refine q_val (.pointer (some ⟨V, 0, none⟩)) (by kernel_rfl) (fun _ _ => by kernel_rfl) ?_
  with_reducible refine q_val (.int .i64 2) (by kernel_rfl) (fun _ _ => by kernel_rfl) ?_
  with_reducible refine q_val (.pointer (some ⟨V, 0, none⟩)) (by kernel_rfl) (fun _ _ => by kernel_rfl) ?_
  with_reducible refine q_val (.pointer (some ⟨V, 2, none⟩)) (by kernel_rfl) (fun _ _ => by kernel_rfl) ?_
  with_reducible refine q_load 34 (.tmp 9) (.pointer (some ⟨V, 2, none⟩)) (.int .u64 Z0) rfl (by kernel_rfl) (by kernel_rfl) (fun _ h => h.at' 2 (by decide) _ hZ0) ?_
  with_reducible refine q_val (.int .u64 y) (by kernel_rfl) (fun _ _ => by kernel_rfl) ?_
  with_reducible refine q_val (.int .u64 (bits .xor .u64 Z0 y)) (by kernel_rfl) (fun _ _ => by kernel_rfl) ?_
  with_reducible refine q_val (.pointer (some ⟨V, 0, none⟩)) (by kernel_rfl) (fun _ _ => by kernel_rfl) ?_
  with_reducible refine q_val (.pointer (some ⟨V, 2, none⟩)) (by kernel_rfl) (fun _ _ => by kernel_rfl) ?_
  with_reducible refine wpQuiet_nil ?_
  intro w1 hCx
  simp only [Act.put, List.setIfInBounds_toArray, List.set_cons_succ, List.set_cons_zero]
  obtain ⟨Y0, hn0⟩ : ∃ z, bits .xor .u64 Z0 y = z := ⟨_, rfl⟩
  rw [hn0]
  have co0 := hCx.cell 2 (by decide)
  have fo0 := frozen_of_row _ _ 2 _ _ hCx.row
  have H1 := Lib.hid (hCx.set 2 (by decide) Y0)
  obtain ⟨v1, hv0⟩ : ∃ f, updI v 2 Y0 = f := ⟨_, rfl⟩
  rw [hv0] at H1
  clear hCx
  -- region 1
  obtain ⟨Z1, hZ1⟩ : ∃ z, v1 7 = z := ⟨_, rfl⟩
  go_wp2_with fail
  refine region_quiet_tail 10 (CK w V tt tl v1) (by kernel_rfl) (by kernel_rfl) H1.out.drew ?_
  simp only [List.take_succ_cons, List.take_zero, List.drop_succ_cons, List.drop_zero]
  with_reducible refine q_val (.pointer (some ⟨V, 0, none⟩)) (by kernel_rfl) (fun _ _ => by kernel_rfl) ?_
  with_reducible refine q_val (.int .i64 2) (by kernel_rfl) (fun _ _ => by kernel_rfl) ?_
  with_reducible refine q_val (.int .i64 7) (by kernel_rfl) (fun _ _ => by kernel_rfl) ?_
  with_reducible refine q_val (.pointer (some ⟨V, 0, none⟩)) (by kernel_rfl) (fun _ _ => by kernel_rfl) ?_
  with_reducible refine q_val (.pointer (some ⟨V, 7, none⟩)) (by kernel_rfl) (fun _ _ => by kernel_rfl) ?_
  with_reducible refine q_load 34 (.tmp 19) (.pointer (some ⟨V, 7, none⟩)) (.int .u64 Z1) rfl (by kernel_rfl) (by kernel_rfl) (fun _ h => h.at' 7 (by decide) _ hZ1) ?_
  with_reducible refine q_val (.int .u64 y) (by kernel_rfl) (fun _ _ => by kernel_rfl) ?_
  with_reducible refine q_val (.int .u64 (bits .xor .u64 Z1 y)) (by kernel_rfl) (fun _ _ => by kernel_rfl) ?_
  with_reducible refine q_val (.pointer (some ⟨V, 0, none⟩)) (by kernel_rfl) (fun _ _ => by kernel_rfl) ?_
  with_reducible refine q_val (.pointer (some ⟨V, 7, none⟩)) (by kernel_rfl) (fun _ _ => by kernel_rfl) ?_
  with_reducible refine wpQuiet_nil ?_
  intro w2 hCx
  simp only [Act.put, List.setIfInBounds_toArray, List.set_cons_succ, List.set_cons_zero]
  obtain ⟨Y1, hn1⟩ : ∃ z, bits .xor .u64 Z1 y = z := ⟨_, rfl⟩
  rw [hn1]
  have co1 := hCx.cell 7 (by decide)
  have fo1 := frozen_of_row _ _ 7 _ _ hCx.row
  have H2 := Lib.hid (hCx.set 7 (by decide) Y1)
  obtain ⟨v2, hv1⟩ : ∃ f, updI v1 7 Y1 = f := ⟨_, rfl⟩
  rw [hv1] at H2
  clear hCx
  -- region 2
  obtain ⟨Z2, hZ2⟩ : ∃ z, v2 12 = z := ⟨_, rfl⟩
  go_wp2_with fail
  refine region_quiet_tail 10 (CK w V tt tl v2) (by kernel_rfl) (by kernel_rfl) H2.out.drew ?_
  simp only [List.take_succ_cons, List.take_zero, List.drop_succ_cons, List.drop_zero]
  with_reducible refine q_val (.pointer (some ⟨V, 0, none⟩)) (by kernel_rfl) (fun _ _ => by kernel_rfl) ?_
  with_reducible refine q_val (.int .i64 2) (by kernel_rfl) (fun _ _ => by kernel_rfl) ?_
  with_reducible refine q_val (.int .i64 12) (by kernel_rfl) (fun _ _ => by kernel_rfl) ?_
  with_reducible refine q_val (.pointer (some ⟨V, 0, none⟩)) (by kernel_rfl) (fun _ _ => by kernel_rfl) ?_
  with_reducible refine q_val (.pointer (some ⟨V, 12, none⟩)) (by kernel_rfl) (fun _ _ => by kernel_rfl) ?_
  with_reducible refine q_load 34 (.tmp 29) (.pointer (some ⟨V, 12, none⟩)) (.int .u64 Z2) rfl (by kernel_rfl) (by kernel_rfl) (fun _ h => h.at' 12 (by decide) _ hZ2) ?_
  with_reducible refine q_val (.int .u64 y) (by kernel_rfl) (fun _ _ => by kernel_rfl) ?_
  with_reducible refine q_val (.int .u64 (bits .xor .u64 Z2 y)) (by kernel_rfl) (fun _ _ => by kernel_rfl) ?_
  with_reducible refine q_val (.pointer (some ⟨V, 0, none⟩)) (by kernel_rfl) (fun _ _ => by kernel_rfl) ?_
  with_reducible refine q_val (.pointer (some ⟨V, 12, none⟩)) (by kernel_rfl) (fun _ _ => by kernel_rfl) ?_
  with_reducible refine wpQuiet_nil ?_
  intro w3 hCx
  simp only [Act.put, List.setIfInBounds_toArray, List.set_cons_succ, List.set_cons_zero]
  obtain ⟨Y2, hn2⟩ : ∃ z, bits .xor .u64 Z2 y = z := ⟨_, rfl⟩
  rw [hn2]
  have co2 := hCx.cell 12 (by decide)
  have fo2 := frozen_of_row _ _ 12 _ _ hCx.row
  have H3 := Lib.hid (hCx.set 12 (by decide) Y2)
  obtain ⟨v3, hv2⟩ : ∃ f, updI v2 12 Y2 = f := ⟨_, rfl⟩
  rw [hv2] at H3
  clear hCx
  -- region 3
  obtain ⟨Z3, hZ3⟩ : ∃ z, v3 17 = z := ⟨_, rfl⟩
  go_wp2_with fail
  refine region_quiet_tail 10 (CK w V tt tl v3) (by kernel_rfl) (by kernel_rfl) H3.out.drew ?_
  simp only [List.take_succ_cons, List.take_zero, List.drop_succ_cons, List.drop_zero]
  with_reducible refine q_val (.pointer (some ⟨V, 0, none⟩)) (by kernel_rfl) (fun _ _ => by kernel_rfl) ?_
  with_reducible refine q_val (.int .i64 2) (by kernel_rfl) (fun _ _ => by kernel_rfl) ?_
  with_reducible refine q_val (.int .i64 17) (by kernel_rfl) (fun _ _ => by kernel_rfl) ?_
  with_reducible refine q_val (.pointer (some ⟨V, 0, none⟩)) (by kernel_rfl) (fun _ _ => by kernel_rfl) ?_
  with_reducible refine q_val (.pointer (some ⟨V, 17, none⟩)) (by kernel_rfl) (fun _ _ => by kernel_rfl) ?_
  with_reducible refine q_load 34 (.tmp 39) (.pointer (some ⟨V, 17, none⟩)) (.int .u64 Z3) rfl (by kernel_rfl) (by kernel_rfl) (fun _ h => h.at' 17 (by decide) _ hZ3) ?_
  with_reducible refine q_val (.int .u64 y) (by kernel_rfl) (fun _ _ => by kernel_rfl) ?_
  with_reducible refine q_val (.int .u64 (bits .xor .u64 Z3 y)) (by kernel_rfl) (fun _ _ => by kernel_rfl) ?_
  with_reducible refine q_val (.pointer (some ⟨V, 0, none⟩)) (by kernel_rfl) (fun _ _ => by kernel_rfl) ?_
  with_reducible refine q_val (.pointer (some ⟨V, 17, none⟩)) (by kernel_rfl) (fun _ _ => by kernel_rfl) ?_
  with_reducible refine wpQuiet_nil ?_
  intro w4 hCx
  simp only [Act.put, List.setIfInBounds_toArray, List.set_cons_succ, List.set_cons_zero]
  obtain ⟨Y3, hn3⟩ : ∃ z, bits .xor .u64 Z3 y = z := ⟨_, rfl⟩
  rw [hn3]
  have co3 := hCx.cell 17 (by decide)
  have fo3 := frozen_of_row _ _ 17 _ _ hCx.row
  have H4 := Lib.hid (hCx.set 17 (by decide) Y3)
  obtain ⟨v4, hv3⟩ : ∃ f, updI v3 17 Y3 = f := ⟨_, rfl⟩
  rw [hv3] at H4
  clear hCx
  -- region 4
  obtain ⟨Z4, hZ4⟩ : ∃ z, v4 22 = z := ⟨_, rfl⟩
  go_wp2_with fail
  refine region_quiet_tail 10 (CK w V tt tl v4) (by kernel_rfl) (by kernel_rfl) H4.out.drew ?_
  simp only [List.take_succ_cons, List.take_zero, List.drop_succ_cons, List.drop_zero]
  with_reducible refine q_val (.pointer (some ⟨V, 0, none⟩)) (by kernel_rfl) (fun _ _ => by kernel_rfl) ?_
  with_reducible refine q_val (.int .i64 2) (by kernel_rfl) (fun _ _ => by kernel_rfl) ?_
  with_reducible refine q_val (.int .i64 22) (by kernel_rfl) (fun _ _ => by kernel_rfl) ?_
  with_reducible refine q_val (.pointer (some ⟨V, 0, none⟩)) (by kernel_rfl) (fun _ _ => by kernel_rfl) ?_
  with_reducible refine q_val (.pointer (some ⟨V, 22, none⟩)) (by kernel_rfl) (fun _ _ => by kernel_rfl) ?_
  with_reducible refine q_load 34 (.tmp 49) (.pointer (some ⟨V, 22, none⟩)) (.int .u64 Z4) rfl (by kernel_rfl) (by kernel_rfl) (fun _ h => h.at' 22 (by decide) _ hZ4) ?_
  with_reducible refine q_val (.int .u64 y) (by kernel_rfl) (fun _ _ => by kernel_rfl) ?_
  with_reducible refine q_val (.int .u64 (bits .xor .u64 Z4 y)) (by kernel_rfl) (fun _ _ => by kernel_rfl) ?_
  with_reducible refine q_val (.pointer (some ⟨V, 0, none⟩)) (by kernel_rfl) (fun _ _ => by kernel_rfl) ?_
  with_reducible refine q_val (.pointer (some ⟨V, 22, none⟩)) (by kernel_rfl) (fun _ _ => by kernel_rfl) ?_
  with_reducible refine wpQuiet_nil ?_
  intro w5 hCx
  simp only [Act.put, List.setIfInBounds_toArray, List.set_cons_succ, List.set_cons_zero]
  obtain ⟨Y4, hn4⟩ : ∃ z, bits .xor .u64 Z4 y = z := ⟨_, rfl⟩
  rw [hn4]
  have co4 := hCx.cell 22 (by decide)
  have fo4 := frozen_of_row _ _ 22 _ _ hCx.row
  have H5 := Lib.hid (hCx.set 22 (by decide) Y4)
  obtain ⟨v5, hv4⟩ : ∃ f, updI v4 22 Y4 = f := ⟨_, rfl⟩
  rw [hv4] at H5
  clear hCx
  have hv : v5 = xcv v 2 y := by
    funext i
    subst hn0 hn1 hn2 hn3 hn4
    subst hZ0 hZ1 hZ2 hZ3 hZ4
    subst hv0 hv1 hv2 hv3 hv4
    unfold xcv updI
    by_cases h : i < 25 ∧ i % 5 = 2
    · rw [if_pos h]
      have hc : i = 2 ∨ i = 7 ∨ i = 12 ∨ i = 17 ∨ i = 22 := by omega
      rcases hc with rfl | rfl | rfl | rfl | rfl <;> rfl
    · rw [if_neg h, if_neg (by omega), if_neg (by omega), if_neg (by omega), if_neg (by omega), if_neg (by omega)]
  rw [hv] at H5
  go_wp2_with fail
  go_end0
  exact ⟨rfl, H5.out⟩
set_option maxRecDepth 100000 in
set_option maxHeartbeats 4000000 in
-- THE COLUMN 3.
theorem xcol3 (y : Int) (w : World) (hw : w.heap[V]? = some (.cells (kr v tl) tt (0, 0))) :
    Calls Tryd.prog 49 #[.pointer (some ⟨V, 0, none⟩), .int .i64 3, .int .u64 y] w fun e w' => e = .returned (.tuple #[]) ∧ CK w V tt tl (xcv v 3 y) w' := by
  have H0 := Lib.hid (show CK w V tt tl v w from ⟨KBut.refl _ _, hw⟩)
  clear hw
  go_enter Tryd.func49, Tryd.ntmps49
  -- region 0
  obtain ⟨Z0, hZ0⟩ : ∃ z, v 3 = z := ⟨_, rfl⟩
  go_wp2_with fail
  refine region_quiet_tail 9 (CK w V tt tl v) (by kernel_rfl) (by kernel_rfl) H0.out.drew ?_
  simp only [List.take_succ_cons, List.take_zero, List.drop_succ_cons, List.drop_zero]
  with_reducible refine q_val (.pointer (some ⟨V, 0, none⟩)) (by kernel_rfl) (fun _ _ => by kernel_rfl) ?_
  with_reducible refine q_val (.int .i64 3) (by kernel_rfl) (fun _ _ => by kernel_rfl) ?_
  with_reducible refine q_val (.pointer (some ⟨V, 0, none⟩)) (by kernel_rfl) (fun _ _ => by kernel_rfl) ?_
  with_reducible refine q_val (.pointer (some ⟨V, 3, none⟩)) (by kernel_rfl) (fun _ _ => by kernel_rfl) ?_
  with_reducible refine q_load 34 (.tmp 9) (.pointer (some ⟨V, 3, none⟩)) (.int .u64 Z0) rfl (by kernel_rfl) (by kernel_rfl) (fun _ h => h.at' 3 (by decide) _ hZ0) ?_
  with_reducible refine q_val (.int .u64 y) (by kernel_rfl) (fun _ _ => by kernel_rfl) ?_
  with_reducible refine q_val (.int .u64 (bits .xor .u64 Z0 y)) (by kernel_rfl) (fun _ _ => by kernel_rfl) ?_
  with_reducible refine q_val (.pointer (some ⟨V, 0, none⟩)) (by kernel_rfl) (fun _ _ => by kernel_rfl) ?_
  with_reducible refine q_val (.pointer (some ⟨V, 3, none⟩)) (by kernel_rfl) (fun _ _ => by kernel_rfl) ?_
  with_reducible refine wpQuiet_nil ?_
  intro w1 hCx
  simp only [Act.put, List.setIfInBounds_toArray, List.set_cons_succ, List.set_cons_zero]
  obtain ⟨Y0, hn0⟩ : ∃ z, bits .xor .u64 Z0 y = z := ⟨_, rfl⟩
  rw [hn0]
  have co0 := hCx.cell 3 (by decide)
  have fo0 := frozen_of_row _ _ 3 _ _ hCx.row
  have H1 := Lib.hid (hCx.set 3 (by decide) Y0)
  obtain ⟨v1, hv0⟩ : ∃ f, updI v 3 Y0 = f := ⟨_, rfl⟩
  rw [hv0] at H1
  clear hCx
  -- region 1
  obtain ⟨Z1, hZ1⟩ : ∃ z, v1 8 = z := ⟨_, rfl⟩
  go_wp2_with fail
  refine region_quiet_tail 10 (CK w V tt tl v1) (by kernel_rfl) (by kernel_rfl) H1.out.drew ?_
  simp only [List.take_succ_cons, List.take_zero, List.drop_succ_cons, List.drop_zero]
  with_reducible refine q_val (.pointer (some ⟨V, 0, none⟩)) (by kernel_rfl) (fun _ _ => by kernel_rfl) ?_
  with_reducible refine q_val (.int .i64 3) (by kernel_rfl) (fun _ _ => by kernel_rfl) ?_
  with_reducible refine q_val (.int .i64 8) (by kernel_rfl) (fun _ _ => by kernel_rfl) ?_
  with_reducible refine q_val (.pointer (some ⟨V, 0, none⟩)) (by kernel_rfl) (fun _ _ => by kernel_rfl) ?_
  with_reducible refine q_val (.pointer (some ⟨V, 8, none⟩)) (by kernel_rfl) (fun _ _ => by kernel_rfl) ?_
  with_reducible refine q_load 34 (.tmp 19) (.pointer (some ⟨V, 8, none⟩)) (.int .u64 Z1) rfl (by kernel_rfl) (by kernel_rfl) (fun _ h => h.at' 8 (by decide) _ hZ1) ?_
  with_reducible refine q_val (.int .u64 y) (by kernel_rfl) (fun _ _ => by kernel_rfl) ?_
  with_reducible refine q_val (.int .u64 (bits .xor .u64 Z1 y)) (by kernel_rfl) (fun _ _ => by kernel_rfl) ?_
  with_reducible refine q_val (.pointer (some ⟨V, 0, none⟩)) (by kernel_rfl) (fun _ _ => by kernel_rfl) ?_
  with_reducible refine q_val (.pointer (some ⟨V, 8, none⟩)) (by kernel_rfl) (fun _ _ => by kernel_rfl) ?_
  with_reducible refine wpQuiet_nil ?_
  intro w2 hCx
  simp only [Act.put, List.setIfInBounds_toArray, List.set_cons_succ, List.set_cons_zero]
  obtain ⟨Y1, hn1⟩ : ∃ z, bits .xor .u64 Z1 y = z := ⟨_, rfl⟩
  rw [hn1]
  have co1 := hCx.cell 8 (by decide)
  have fo1 := frozen_of_row _ _ 8 _ _ hCx.row
  have H2 := Lib.hid (hCx.set 8 (by decide) Y1)
  obtain ⟨v2, hv1⟩ : ∃ f, updI v1 8 Y1 = f := ⟨_, rfl⟩
  rw [hv1] at H2
  clear hCx
  -- region 2
  obtain ⟨Z2, hZ2⟩ : ∃ z, v2 13 = z := ⟨_, rfl⟩
  go_wp2_with fail
  refine region_quiet_tail 10 (CK w V tt tl v2) (by kernel_rfl) (by kernel_rfl) H2.out.drew ?_
  simp only [List.take_succ_cons, List.take_zero, List.drop_succ_cons, List.drop_zero]
  with_reducible refine q_val (.pointer (some ⟨V, 0, none⟩)) (by kernel_rfl) (fun _ _ => by kernel_rfl) ?_
  with_reducible refine q_val (.int .i64 3) (by kernel_rfl) (fun _ _ => by kernel_rfl) ?_
  with_reducible refine q_val (.int .i64 13) (by kernel_rfl) (fun _ _ => by kernel_rfl) ?_
  with_reducible refine q_val (.pointer (some ⟨V, 0, none⟩)) (by kernel_rfl) (fun _ _ => by kernel_rfl) ?_
  with_reducible refine q_val (.pointer (some ⟨V, 13, none⟩)) (by kernel_rfl) (fun _ _ => by kernel_rfl) ?_
  with_reducible refine q_load 34 (.tmp 29) (.pointer (some ⟨V, 13, none⟩)) (.int .u64 Z2) rfl (by kernel_rfl) (by kernel_rfl) (fun _ h => h.at' 13 (by decide) _ hZ2) ?_
  with_reducible refine q_val (.int .u64 y) (by kernel_rfl) (fun _ _ => by kernel_rfl) ?_
  with_reducible refine q_val (.int .u64 (bits .xor .u64 Z2 y)) (by kernel_rfl) (fun _ _ => by kernel_rfl) ?_
  with_reducible refine q_val (.pointer (some ⟨V, 0, none⟩)) (by kernel_rfl) (fun _ _ => by kernel_rfl) ?_
  with_reducible refine q_val (.pointer (some ⟨V, 13, none⟩)) (by kernel_rfl) (fun _ _ => by kernel_rfl) ?_
  with_reducible refine wpQuiet_nil ?_
  intro w3 hCx
  simp only [Act.put, List.setIfInBounds_toArray, List.set_cons_succ, List.set_cons_zero]
  obtain ⟨Y2, hn2⟩ : ∃ z, bits .xor .u64 Z2 y = z := ⟨_, rfl⟩
  rw [hn2]
  have co2 := hCx.cell 13 (by decide)
  have fo2 := frozen_of_row _ _ 13 _ _ hCx.row
  have H3 := Lib.hid (hCx.set 13 (by decide) Y2)
  obtain ⟨v3, hv2⟩ : ∃ f, updI v2 13 Y2 = f := ⟨_, rfl⟩
  rw [hv2] at H3
  clear hCx
  -- region 3
  obtain ⟨Z3, hZ3⟩ : ∃ z, v3 18 = z := ⟨_, rfl⟩
  go_wp2_with fail
  refine region_quiet_tail 10 (CK w V tt tl v3) (by kernel_rfl) (by kernel_rfl) H3.out.drew ?_
  simp only [List.take_succ_cons, List.take_zero, List.drop_succ_cons, List.drop_zero]
  with_reducible refine q_val (.pointer (some ⟨V, 0, none⟩)) (by kernel_rfl) (fun _ _ => by kernel_rfl) ?_
  with_reducible refine q_val (.int .i64 3) (by kernel_rfl) (fun _ _ => by kernel_rfl) ?_
  with_reducible refine q_val (.int .i64 18) (by kernel_rfl) (fun _ _ => by kernel_rfl) ?_
  with_reducible refine q_val (.pointer (some ⟨V, 0, none⟩)) (by kernel_rfl) (fun _ _ => by kernel_rfl) ?_
  with_reducible refine q_val (.pointer (some ⟨V, 18, none⟩)) (by kernel_rfl) (fun _ _ => by kernel_rfl) ?_
  with_reducible refine q_load 34 (.tmp 39) (.pointer (some ⟨V, 18, none⟩)) (.int .u64 Z3) rfl (by kernel_rfl) (by kernel_rfl) (fun _ h => h.at' 18 (by decide) _ hZ3) ?_
  with_reducible refine q_val (.int .u64 y) (by kernel_rfl) (fun _ _ => by kernel_rfl) ?_
  with_reducible refine q_val (.int .u64 (bits .xor .u64 Z3 y)) (by kernel_rfl) (fun _ _ => by kernel_rfl) ?_
  with_reducible refine q_val (.pointer (some ⟨V, 0, none⟩)) (by kernel_rfl) (fun _ _ => by kernel_rfl) ?_
  with_reducible refine q_val (.pointer (some ⟨V, 18, none⟩)) (by kernel_rfl) (fun _ _ => by kernel_rfl) ?_
  with_reducible refine wpQuiet_nil ?_
  intro w4 hCx
  simp only [Act.put, List.setIfInBounds_toArray, List.set_cons_succ, List.set_cons_zero]
  obtain ⟨Y3, hn3⟩ : ∃ z, bits .xor .u64 Z3 y = z := ⟨_, rfl⟩
  rw [hn3]
  have co3 := hCx.cell 18 (by decide)
  have fo3 := frozen_of_row _ _ 18 _ _ hCx.row
  have H4 := Lib.hid (hCx.set 18 (by decide) Y3)
  obtain ⟨v4, hv3⟩ : ∃ f, updI v3 18 Y3 = f := ⟨_, rfl⟩
  rw [hv3] at H4
  clear hCx
  -- region 4
  obtain ⟨Z4, hZ4⟩ : ∃ z, v4 23 = z := ⟨_, rfl⟩
  go_wp2_with fail
  refine region_quiet_tail 10 (CK w V tt tl v4) (by kernel_rfl) (by kernel_rfl) H4.out.drew ?_
  simp only [List.take_succ_cons, List.take_zero, List.drop_succ_cons, List.drop_zero]
  with_reducible refine q_val (.pointer (some ⟨V, 0, none⟩)) (by kernel_rfl) (fun _ _ => by kernel_rfl) ?_
  with_reducible refine q_val (.int .i64 3) (by kernel_rfl) (fun _ _ => by kernel_rfl) ?_
  with_reducible refine q_val (.int .i64 23) (by kernel_rfl) (fun _ _ => by kernel_rfl) ?_
  with_reducible refine q_val (.pointer (some ⟨V, 0, none⟩)) (by kernel_rfl) (fun _ _ => by kernel_rfl) ?_
  with_reducible refine q_val (.pointer (some ⟨V, 23, none⟩)) (by kernel_rfl) (fun _ _ => by kernel_rfl) ?_
  with_reducible refine q_load 34 (.tmp 49) (.pointer (some ⟨V, 23, none⟩)) (.int .u64 Z4) rfl (by kernel_rfl) (by kernel_rfl) (fun _ h => h.at' 23 (by decide) _ hZ4) ?_
  with_reducible refine q_val (.int .u64 y) (by kernel_rfl) (fun _ _ => by kernel_rfl) ?_
  with_reducible refine q_val (.int .u64 (bits .xor .u64 Z4 y)) (by kernel_rfl) (fun _ _ => by kernel_rfl) ?_
  with_reducible refine q_val (.pointer (some ⟨V, 0, none⟩)) (by kernel_rfl) (fun _ _ => by kernel_rfl) ?_
  with_reducible refine q_val (.pointer (some ⟨V, 23, none⟩)) (by kernel_rfl) (fun _ _ => by kernel_rfl) ?_
  with_reducible refine wpQuiet_nil ?_
  intro w5 hCx
  simp only [Act.put, List.setIfInBounds_toArray, List.set_cons_succ, List.set_cons_zero]
  obtain ⟨Y4, hn4⟩ : ∃ z, bits .xor .u64 Z4 y = z := ⟨_, rfl⟩
  rw [hn4]
  have co4 := hCx.cell 23 (by decide)
  have fo4 := frozen_of_row _ _ 23 _ _ hCx.row
  have H5 := Lib.hid (hCx.set 23 (by decide) Y4)
  obtain ⟨v5, hv4⟩ : ∃ f, updI v4 23 Y4 = f := ⟨_, rfl⟩
  rw [hv4] at H5
  clear hCx
  have hv : v5 = xcv v 3 y := by
    funext i
    subst hn0 hn1 hn2 hn3 hn4
    subst hZ0 hZ1 hZ2 hZ3 hZ4
    subst hv0 hv1 hv2 hv3 hv4
    unfold xcv updI
    by_cases h : i < 25 ∧ i % 5 = 3
    · rw [if_pos h]
      have hc : i = 3 ∨ i = 8 ∨ i = 13 ∨ i = 18 ∨ i = 23 := by omega
      rcases hc with rfl | rfl | rfl | rfl | rfl <;> rfl
    · rw [if_neg h, if_neg (by omega), if_neg (by omega), if_neg (by omega), if_neg (by omega), if_neg (by omega)]
  rw [hv] at H5
  go_wp2_with fail
  go_end0
  exact ⟨rfl, H5.out⟩
set_option maxRecDepth 100000 in
set_option maxHeartbeats 4000000 in
-- THE COLUMN 4.
theorem xcol4 (y : Int) (w : World) (hw : w.heap[V]? = some (.cells (kr v tl) tt (0, 0))) :
    Calls Tryd.prog 49 #[.pointer (some ⟨V, 0, none⟩), .int .i64 4, .int .u64 y] w fun e w' => e = .returned (.tuple #[]) ∧ CK w V tt tl (xcv v 4 y) w' := by
  have H0 := Lib.hid (show CK w V tt tl v w from ⟨KBut.refl _ _, hw⟩)
  clear hw
  go_enter Tryd.func49, Tryd.ntmps49
  -- region 0
  obtain ⟨Z0, hZ0⟩ : ∃ z, v 4 = z := ⟨_, rfl⟩
  go_wp2_with fail
  refine region_quiet_tail 9 (CK w V tt tl v) (by kernel_rfl) (by kernel_rfl) H0.out.drew ?_
  simp only [List.take_succ_cons, List.take_zero, List.drop_succ_cons, List.drop_zero]
  with_reducible refine q_val (.pointer (some ⟨V, 0, none⟩)) (by kernel_rfl) (fun _ _ => by kernel_rfl) ?_
  with_reducible refine q_val (.int .i64 4) (by kernel_rfl) (fun _ _ => by kernel_rfl) ?_
  with_reducible refine q_val (.pointer (some ⟨V, 0, none⟩)) (by kernel_rfl) (fun _ _ => by kernel_rfl) ?_
  with_reducible refine q_val (.pointer (some ⟨V, 4, none⟩)) (by kernel_rfl) (fun _ _ => by kernel_rfl) ?_
  with_reducible refine q_load 34 (.tmp 9) (.pointer (some ⟨V, 4, none⟩)) (.int .u64 Z0) rfl (by kernel_rfl) (by kernel_rfl) (fun _ h => h.at' 4 (by decide) _ hZ0) ?_
  with_reducible refine q_val (.int .u64 y) (by kernel_rfl) (fun _ _ => by kernel_rfl) ?_
  with_reducible refine q_val (.int .u64 (bits .xor .u64 Z0 y)) (by kernel_rfl) (fun _ _ => by kernel_rfl) ?_
  with_reducible refine q_val (.pointer (some ⟨V, 0, none⟩)) (by kernel_rfl) (fun _ _ => by kernel_rfl) ?_
  with_reducible refine q_val (.pointer (some ⟨V, 4, none⟩)) (by kernel_rfl) (fun _ _ => by kernel_rfl) ?_
  with_reducible refine wpQuiet_nil ?_
  intro w1 hCx
  simp only [Act.put, List.setIfInBounds_toArray, List.set_cons_succ, List.set_cons_zero]
  obtain ⟨Y0, hn0⟩ : ∃ z, bits .xor .u64 Z0 y = z := ⟨_, rfl⟩
  rw [hn0]
  have co0 := hCx.cell 4 (by decide)
  have fo0 := frozen_of_row _ _ 4 _ _ hCx.row
  have H1 := Lib.hid (hCx.set 4 (by decide) Y0)
  obtain ⟨v1, hv0⟩ : ∃ f, updI v 4 Y0 = f := ⟨_, rfl⟩
  rw [hv0] at H1
  clear hCx
  -- region 1
  obtain ⟨Z1, hZ1⟩ : ∃ z, v1 9 = z := ⟨_, rfl⟩
  go_wp2_with fail
  refine region_quiet_tail 10 (CK w V tt tl v1) (by kernel_rfl) (by kernel_rfl) H1.out.drew ?_
  simp only [List.take_succ_cons, List.take_zero, List.drop_succ_cons, List.drop_zero]
  with_reducible refine q_val (.pointer (some ⟨V, 0, none⟩)) (by kernel_rfl) (fun _ _ => by kernel_rfl) ?_
  with_reducible refine q_val (.int .i64 4) (by kernel_rfl) (fun _ _ => by kernel_rfl) ?_
  with_reducible refine q_val (.int .i64 9) (by kernel_rfl) (fun _ _ => by kernel_rfl) ?_
  with_reducible refine q_val (.pointer (some ⟨V, 0, none⟩)) (by kernel_rfl) (fun _ _ => by kernel_rfl) ?_
  with_reducible refine q_val (.pointer (some ⟨V, 9, none⟩)) (by kernel_rfl) (fun _ _ => by kernel_rfl) ?_
  with_reducible refine q_load 34 (.tmp 19) (.pointer (some ⟨V, 9, none⟩)) (.int .u64 Z1) rfl (by kernel_rfl) (by kernel_rfl) (fun _ h => h.at' 9 (by decide) _ hZ1) ?_
  with_reducible refine q_val (.int .u64 y) (by kernel_rfl) (fun _ _ => by kernel_rfl) ?_
  with_reducible refine q_val (.int .u64 (bits .xor .u64 Z1 y)) (by kernel_rfl) (fun _ _ => by kernel_rfl) ?_
  with_reducible refine q_val (.pointer (some ⟨V, 0, none⟩)) (by kernel_rfl) (fun _ _ => by kernel_rfl) ?_
  with_reducible refine q_val (.pointer (some ⟨V, 9, none⟩)) (by kernel_rfl) (fun _ _ => by kernel_rfl) ?_
  with_reducible refine wpQuiet_nil ?_
  intro w2 hCx
  simp only [Act.put, List.setIfInBounds_toArray, List.set_cons_succ, List.set_cons_zero]
  obtain ⟨Y1, hn1⟩ : ∃ z, bits .xor .u64 Z1 y = z := ⟨_, rfl⟩
  rw [hn1]
  have co1 := hCx.cell 9 (by decide)
  have fo1 := frozen_of_row _ _ 9 _ _ hCx.row
  have H2 := Lib.hid (hCx.set 9 (by decide) Y1)
  obtain ⟨v2, hv1⟩ : ∃ f, updI v1 9 Y1 = f := ⟨_, rfl⟩
  rw [hv1] at H2
  clear hCx
  -- region 2
  obtain ⟨Z2, hZ2⟩ : ∃ z, v2 14 = z := ⟨_, rfl⟩
  go_wp2_with fail
  refine region_quiet_tail 10 (CK w V tt tl v2) (by kernel_rfl) (by kernel_rfl) H2.out.drew ?_
  simp only [List.take_succ_cons, List.take_zero, List.drop_succ_cons, List.drop_zero]
  with_reducible refine q_val (.pointer (some ⟨V, 0, none⟩)) (by kernel_rfl) (fun _ _ => by kernel_rfl) ?_
  with_reducible refine q_val (.int .i64 4) (by kernel_rfl) (fun _ _ => by kernel_rfl) ?_
  with_reducible refine q_val (.int .i64 14) (by kernel_rfl) (fun _ _ => by kernel_rfl) ?_
  with_reducible refine q_val (.pointer (some ⟨V, 0, none⟩)) (by kernel_rfl) (fun _ _ => by kernel_rfl) ?_
  with_reducible refine q_val (.pointer (some ⟨V, 14, none⟩)) (by kernel_rfl) (fun _ _ => by kernel_rfl) ?_
  with_reducible refine q_load 34 (.tmp 29) (.pointer (some ⟨V, 14, none⟩)) (.int .u64 Z2) rfl (by kernel_rfl) (by kernel_rfl) (fun _ h => h.at' 14 (by decide) _ hZ2) ?_
  with_reducible refine q_val (.int .u64 y) (by kernel_rfl) (fun _ _ => by kernel_rfl) ?_
  with_reducible refine q_val (.int .u64 (bits .xor .u64 Z2 y)) (by kernel_rfl) (fun _ _ => by kernel_rfl) ?_
  with_reducible refine q_val (.pointer (some ⟨V, 0, none⟩)) (by kernel_rfl) (fun _ _ => by kernel_rfl) ?_
  with_reducible refine q_val (.pointer (some ⟨V, 14, none⟩)) (by kernel_rfl) (fun _ _ => by kernel_rfl) ?_
  with_reducible refine wpQuiet_nil ?_
  intro w3 hCx
  simp only [Act.put, List.setIfInBounds_toArray, List.set_cons_succ, List.set_cons_zero]
  obtain ⟨Y2, hn2⟩ : ∃ z, bits .xor .u64 Z2 y = z := ⟨_, rfl⟩
  rw [hn2]
  have co2 := hCx.cell 14 (by decide)
  have fo2 := frozen_of_row _ _ 14 _ _ hCx.row
  have H3 := Lib.hid (hCx.set 14 (by decide) Y2)
  obtain ⟨v3, hv2⟩ : ∃ f, updI v2 14 Y2 = f := ⟨_, rfl⟩
  rw [hv2] at H3
  clear hCx
  -- region 3
  obtain ⟨Z3, hZ3⟩ : ∃ z, v3 19 = z := ⟨_, rfl⟩
  go_wp2_with fail
  refine region_quiet_tail 10 (CK w V tt tl v3) (by kernel_rfl) (by kernel_rfl) H3.out.drew ?_
  simp only [List.take_succ_cons, List.take_zero, List.drop_succ_cons, List.drop_zero]
  with_reducible refine q_val (.pointer (some ⟨V, 0, none⟩)) (by kernel_rfl) (fun _ _ => by kernel_rfl) ?_
  with_reducible refine q_val (.int .i64 4) (by kernel_rfl) (fun _ _ => by kernel_rfl) ?_
  with_reducible refine q_val (.int .i64 19) (by kernel_rfl) (fun _ _ => by kernel_rfl) ?_
  with_reducible refine q_val (.pointer (some ⟨V, 0, none⟩)) (by kernel_rfl) (fun _ _ => by kernel_rfl) ?_
  with_reducible refine q_val (.pointer (some ⟨V, 19, none⟩)) (by kernel_rfl) (fun _ _ => by kernel_rfl) ?_
  with_reducible refine q_load 34 (.tmp 39) (.pointer (some ⟨V, 19, none⟩)) (.int .u64 Z3) rfl (by kernel_rfl) (by kernel_rfl) (fun _ h => h.at' 19 (by decide) _ hZ3) ?_
  with_reducible refine q_val (.int .u64 y) (by kernel_rfl) (fun _ _ => by kernel_rfl) ?_
  with_reducible refine q_val (.int .u64 (bits .xor .u64 Z3 y)) (by kernel_rfl) (fun _ _ => by kernel_rfl) ?_
  with_reducible refine q_val (.pointer (some ⟨V, 0, none⟩)) (by kernel_rfl) (fun _ _ => by kernel_rfl) ?_
  with_reducible refine q_val (.pointer (some ⟨V, 19, none⟩)) (by kernel_rfl) (fun _ _ => by kernel_rfl) ?_
  with_reducible refine wpQuiet_nil ?_
  intro w4 hCx
  simp only [Act.put, List.setIfInBounds_toArray, List.set_cons_succ, List.set_cons_zero]
  obtain ⟨Y3, hn3⟩ : ∃ z, bits .xor .u64 Z3 y = z := ⟨_, rfl⟩
  rw [hn3]
  have co3 := hCx.cell 19 (by decide)
  have fo3 := frozen_of_row _ _ 19 _ _ hCx.row
  have H4 := Lib.hid (hCx.set 19 (by decide) Y3)
  obtain ⟨v4, hv3⟩ : ∃ f, updI v3 19 Y3 = f := ⟨_, rfl⟩
  rw [hv3] at H4
  clear hCx
  -- region 4
  obtain ⟨Z4, hZ4⟩ : ∃ z, v4 24 = z := ⟨_, rfl⟩
  go_wp2_with fail
  refine region_quiet_tail 10 (CK w V tt tl v4) (by kernel_rfl) (by kernel_rfl) H4.out.drew ?_
  simp only [List.take_succ_cons, List.take_zero, List.drop_succ_cons, List.drop_zero]
  with_reducible refine q_val (.pointer (some ⟨V, 0, none⟩)) (by kernel_rfl) (fun _ _ => by kernel_rfl) ?_
  with_reducible refine q_val (.int .i64 4) (by kernel_rfl) (fun _ _ => by kernel_rfl) ?_
  with_reducible refine q_val (.int .i64 24) (by kernel_rfl) (fun _ _ => by kernel_rfl) ?_
  with_reducible refine q_val (.pointer (some ⟨V, 0, none⟩)) (by kernel_rfl) (fun _ _ => by kernel_rfl) ?_
  with_reducible refine q_val (.pointer (some ⟨V, 24, none⟩)) (by kernel_rfl) (fun _ _ => by kernel_rfl) ?_
  with_reducible refine q_load 34 (.tmp 49) (.pointer (some ⟨V, 24, none⟩)) (.int .u64 Z4) rfl (by kernel_rfl) (by kernel_rfl) (fun _ h => h.at' 24 (by decide) _ hZ4) ?_
  with_reducible refine q_val (.int .u64 y) (by kernel_rfl) (fun _ _ => by kernel_rfl) ?_
  with_reducible refine q_val (.int .u64 (bits .xor .u64 Z4 y)) (by kernel_rfl) (fun _ _ => by kernel_rfl) ?_
  with_reducible refine q_val (.pointer (some ⟨V, 0, none⟩)) (by kernel_rfl) (fun _ _ => by kernel_rfl) ?_
  with_reducible refine q_val (.pointer (some ⟨V, 24, none⟩)) (by kernel_rfl) (fun _ _ => by kernel_rfl) ?_
  with_reducible refine wpQuiet_nil ?_
  intro w5 hCx
  simp only [Act.put, List.setIfInBounds_toArray, List.set_cons_succ, List.set_cons_zero]
  obtain ⟨Y4, hn4⟩ : ∃ z, bits .xor .u64 Z4 y = z := ⟨_, rfl⟩
  rw [hn4]
  have co4 := hCx.cell 24 (by decide)
  have fo4 := frozen_of_row _ _ 24 _ _ hCx.row
  have H5 := Lib.hid (hCx.set 24 (by decide) Y4)
  obtain ⟨v5, hv4⟩ : ∃ f, updI v4 24 Y4 = f := ⟨_, rfl⟩
  rw [hv4] at H5
  clear hCx
  have hv : v5 = xcv v 4 y := by
    funext i
    subst hn0 hn1 hn2 hn3 hn4
    subst hZ0 hZ1 hZ2 hZ3 hZ4
    subst hv0 hv1 hv2 hv3 hv4
    unfold xcv updI
    by_cases h : i < 25 ∧ i % 5 = 4
    · rw [if_pos h]
      have hc : i = 4 ∨ i = 9 ∨ i = 14 ∨ i = 19 ∨ i = 24 := by omega
      rcases hc with rfl | rfl | rfl | rfl | rfl <;> rfl
    · rw [if_neg h, if_neg (by omega), if_neg (by omega), if_neg (by omega), if_neg (by omega), if_neg (by omega)]
  rw [hv] at H5
  go_wp2_with fail
  go_end0
  exact ⟨rfl, H5.out⟩
end Go.Proofs.YtcmpnnfnkcmpcaaDoor

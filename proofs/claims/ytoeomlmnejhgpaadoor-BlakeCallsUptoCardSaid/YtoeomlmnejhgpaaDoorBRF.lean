/- BLAKE2b: what the reference's F comes to: the walk. -/
import Derived.Test.YtoeomlmnejhgpaaDoorBRFa
namespace Go.Proofs.YtoeomlmnejhgpaaDoor
open Go.RowKit
/-- The worlds while two of the sixteen are laid. -/
def CB (w : World) (h m t : Nat → Int) (V pg k q : Nat) (wx : World) : Prop := ∃ f : Nat → Int, CG w h m t V pg f wx ∧ ∀ i, i ≠ k → i ≠ q → f i = bg0 h k i
theorem CB.below {w wx w' : World} {h m t : Nat → Int} {V pg k q : Nat} (c : CB w h m t V pg k q wx) (hb : Below wx.heap.size wx w') : CB w h m t V pg k q w' := by
  obtain ⟨f, h1, h2⟩ := c
  exact ⟨f, h1.below hb, h2⟩
theorem CB.drew {w wx : World} {h m t : Nat → Int} {V pg k q : Nat} (c : CB w h m t V pg k q wx) : CB w h m t V pg k q wx.drew := by
  obtain ⟨f, h1, h2⟩ := c
  exact ⟨f, h1.drew, h2⟩
theorem CB.set {w wx : World} {h m t : Nat → Int} {V pg k q : Nat} (c : CB w h m t V pg k q wx) (j : Nat) (hj : j < 16) (hs : j = k ∨ j = q) (y : Int) : CB w h m t V pg k q (wx.setCell ⟨V, j, none⟩ (.int .u64 y)) := by
  obtain ⟨f, h1, h2⟩ := c
  refine ⟨updI f j y, h1.set j hj y, fun i ia ib => ?_⟩
  unfold updI
  rw [if_neg (by omega)]
  exact h2 i ia ib
theorem CB.store {w wx : World} {h m t : Nat → Int} {V pg k q : Nat} (c : CB w h m t V pg k q wx) (j : Nat) (hj : j < 16) (y : Int) : (Instr.storeAt 34 (.pointer (some ⟨V, j, none⟩)) (.int .u64 y)).run Tryd.prog wx = .ok () (wx.setCell ⟨V, j, none⟩ (.int .u64 y)) := by
  obtain ⟨f, h1, h2⟩ := c
  exact h1.store j hj y
theorem CB.same {w wx : World} {h m t : Nat → Int} {V pg k q : Nat} (c : CB w h m t V pg k q wx) (j : Nat) (hj : j < 16) (y : Int) : (wx.setCell ⟨V, j, none⟩ (.int .u64 y)).cell? ⟨V, j, none⟩ = some (.int .u64 y) := by
  obtain ⟨f, h1, h2⟩ := c
  exact World.cell?_setCell_same _ _ _ (cell_row16 h1.rV j hj)
/-- What is laid of the two stays. -/
def RB2 (V k q : Nat) (A B : Int) (wa wb : World) : Prop := (wa.cell? ⟨V, k, none⟩ = some (.int .u64 A) → wb.cell? ⟨V, k, none⟩ = some (.int .u64 A)) ∧ (wa.cell? ⟨V, q, none⟩ = some (.int .u64 B) → wb.cell? ⟨V, q, none⟩ = some (.int .u64 B))
theorem RB2.refl (V k q : Nat) (A B : Int) (w : World) : RB2 V k q A B w w := ⟨fun h => h, fun h => h⟩
theorem RB2.of {V k q : Nat} {A B : Int} {wa wb : World} (hV : V < wa.heap.size) (hb : Below wa.heap.size wa wb) : RB2 V k q A B wa wb := ⟨fun h => (hb.cell (p := ⟨V, k, none⟩) hV).trans h, fun h => (hb.cell (p := ⟨V, q, none⟩) hV).trans h⟩
theorem CB.high {w wx : World} {h m t : Nat → Int} {V pg k q : Nat} (c : CB w h m t V pg k q wx) : V < wx.heap.size := by
  obtain ⟨f, h1, h2⟩ := c
  exact h1.high
theorem CB.at_h {w wx : World} {h m t : Nat → Int} {V pg k q : Nat} (c : CB w h m t V pg k q wx) (hk : k < 8) : wx.cell? ⟨w.heap.size, k, none⟩ = some (.int .u64 (h k)) := by
  obtain ⟨f, h1, h2⟩ := c
  exact (cell_of_row _ _ k _ _ _ h1.r0).trans (ar_at _ _ _ _ hk)
theorem CB.at_p {w wx : World} {h m t : Nat → Int} {V pg k q : Nat} (c : CB w h m t V pg k q wx) (hk : k < 8) : wx.cell? ⟨pg, k, none⟩ = some (.int .u64 (pr k : Nat)) := by
  obtain ⟨f, h1, h2⟩ := c
  exact h1.pl k hk
theorem CG.hset {w wx : World} {h m t v : Nat → Int} {V pg : Nat} (c : CG w h m t V pg v wx) (j : Nat) (hj : j < 8) (y : Int) : CG w (updI h j y) m t V pg v (wx.setCell ⟨w.heap.size, j, none⟩ (.int .u64 y)) := by
  have l2 := c.hV
  have l3 := c.pb
  exact ⟨c.old.setCell (by show w.heap.size ≤ w.heap.size; omega) _, (heap_setCell_same _ _ _ _ _ _ c.r0).trans (by rw [ar_set _ _ _ _ _ hj]), (heap_setCell_other _ _ _ _ (by show w.heap.size + 1 ≠ w.heap.size; omega)).trans c.r1, (heap_setCell_other _ _ _ _ (by show w.heap.size + 1 + 1 ≠ w.heap.size; omega)).trans c.r2, (heap_setCell_other _ _ _ _ (by show w.heap.size + 1 + 1 + 1 ≠ w.heap.size; omega)).trans c.r3, (heap_setCell_other _ _ _ _ (by show V ≠ w.heap.size; omega)).trans c.rV, l2, fun k hk => (World.cell?_setCell_other _ _ _ _ (by intro e; injection e with e1 e2; omega)).trans (c.pl k hk), l3⟩
theorem xor_u (x y : Int) (w : World) : (binOp BinOp.xor 34 (.int .u64 x) (.int .u64 y)).run Tryd.prog w = .ok (.int .u64 (bits .xor .u64 x y)) w := by go_simp
set_option maxRecDepth 100000 in
set_option maxHeartbeats 4000000 in
-- WHAT THE REFERENCE's F COMES TO.
theorem brf_any (r : Nat) (h m t : Nat → Int) (last : Bool) (hr : r < 4294967296) (w : World) : Calls Tryd.prog 37 #[.int .u32 r, .agg (ar .u64 8 h), .agg (ar .u64 16 m), .agg (ar .u64 2 t), .bool last] w fun e w' => e = .returned (.agg (ar .u64 8 (bfi h (vrn (bgn h t last) m (min r 65536))))) ∧ Below w.heap.size w w' := by
  obtain ⟨N, hNe⟩ : ∃ N, min r 65536 = N := ⟨_, rfl⟩
  rw [hNe]
  have HN := Lib.hid (And.intro hNe hr)
  clear hNe hr
  have H4 := Lib.hid (heap4 w (.cells (ar .u64 8 h) 54) (.cells (ar .u64 16 m) 55) (.cells (ar .u64 2 t) 56) (.cells #[.int .u64 0, .int .u64 0, .int .u64 0, .int .u64 0, .int .u64 0, .int .u64 0, .int .u64 0, .int .u64 0] 54))
  go_enter Tryd.func37, Tryd.ntmps37
  go_wp2_with fail
  refine (primes_8 _).mono ?_
  rintro e w2 ⟨pg, pc, rfl, hown, hb⟩
  obtain ⟨V, hVe⟩ : ∃ V, w2.heap.size = V := ⟨_, rfl⟩
  have h2 : ((((w.alloc (.cells (ar .u64 8 h) 54)).alloc (.cells (ar .u64 16 m) 55)).alloc (.cells (ar .u64 2 t) 56)).alloc (.cells #[.int .u64 0, .int .u64 0, .int .u64 0, .int .u64 0, .int .u64 0, .int .u64 0, .int .u64 0, .int .u64 0] 54)).heap.size = w.heap.size + 4 := by simp
  have hs : w.heap.size + 4 ≤ V := by
    have h1 := hb.size
    omega
  have HX := Lib.hid (And.intro hVe (show (w2.alloc (.cells #[.int .u64 0, .int .u64 0, .int .u64 0, .int .u64 0, .int .u64 0, .int .u64 0, .int .u64 0, .int .u64 0, .int .u64 0, .int .u64 0, .int .u64 0, .int .u64 0, .int .u64 0, .int .u64 0, .int .u64 0, .int .u64 0] 55)).heap[V]? = some (.cells #[.int .u64 0, .int .u64 0, .int .u64 0, .int .u64 0, .int .u64 0, .int .u64 0, .int .u64 0, .int .u64 0, .int .u64 0, .int .u64 0, .int .u64 0, .int .u64 0, .int .u64 0, .int .u64 0, .int .u64 0, .int .u64 0] 55 (0, 0)) from by rw [← hVe]; exact heap_alloc_new _ _))
  have H5 := Lib.hid (show CG w h m t V pg (bg0 h 0) ((w2.alloc (.cells #[.int .u64 0, .int .u64 0, .int .u64 0, .int .u64 0, .int .u64 0, .int .u64 0, .int .u64 0, .int .u64 0, .int .u64 0, .int .u64 0, .int .u64 0, .int .u64 0, .int .u64 0, .int .u64 0, .int .u64 0, .int .u64 0] 55)).setRow V (ar .u64 16 (bg0 h 0))) from by
    have hb0 : Below w.heap.size w ((((w.alloc (.cells (ar .u64 8 h) 54)).alloc (.cells (ar .u64 16 m) 55)).alloc (.cells (ar .u64 2 t) 56)).alloc (.cells #[.int .u64 0, .int .u64 0, .int .u64 0, .int .u64 0, .int .u64 0, .int .u64 0, .int .u64 0, .int .u64 0] 54)) := by go_grown
    have hk : ∀ b, b < w.heap.size + 4 → ((w2.alloc (.cells #[.int .u64 0, .int .u64 0, .int .u64 0, .int .u64 0, .int .u64 0, .int .u64 0, .int .u64 0, .int .u64 0, .int .u64 0, .int .u64 0, .int .u64 0, .int .u64 0, .int .u64 0, .int .u64 0, .int .u64 0, .int .u64 0] 55)).setRow V (ar .u64 16 (bg0 h 0))).heap[b]? = ((((w.alloc (.cells (ar .u64 8 h) 54)).alloc (.cells (ar .u64 16 m) 55)).alloc (.cells (ar .u64 2 t) 56)).alloc (.cells #[.int .u64 0, .int .u64 0, .int .u64 0, .int .u64 0, .int .u64 0, .int .u64 0, .int .u64 0, .int .u64 0] 54)).heap[b]? := fun b hb' => (setRow_other _ _ _ _ (by omega)).trans ((heap_alloc_old _ _ (by omega)).trans (hb.block _ (by omega)))
    have hpl := hown.lt pg rfl
    refine ⟨below_setRow ((hb0.trans (hb.mono (by omega))).alloc (by omega) _) (by omega) _, (hk _ (by omega)).trans H4.out.1, (hk _ (by omega)).trans H4.out.2.1, (hk _ (by omega)).trans H4.out.2.2.1, (hk _ (by omega)).trans H4.out.2.2.2, setRow_heap _ _ _ _ _ _ HX.out.2, hs, fun j hj => ?_, by omega, by omega⟩
    refine (World.cell?_of_block (w := w2.alloc (.cells #[.int .u64 0, .int .u64 0, .int .u64 0, .int .u64 0, .int .u64 0, .int .u64 0, .int .u64 0, .int .u64 0, .int .u64 0, .int .u64 0, .int .u64 0, .int .u64 0, .int .u64 0, .int .u64 0, .int .u64 0, .int .u64 0] 55)) (setRow_other _ _ _ _ (by show pg ≠ V; omega))).trans ?_
    exact cell_alloc_old ((hown.cellAt j (by omega)).trans (pu_at pr 8 j hj)) _)
  clear hown hb hs h2 H4 hVe
  go_wp2_with (refine wpList_store_row rfl 55 _ _ rfl V (ar .u64 16 (bg0 h 0)) (by rw [← HX.out.1]; kernel_rfl) (by rw [bg0_none]; kernel_rfl) 55 #[.int .u64 0, .int .u64 0, .int .u64 0, .int .u64 0, .int .u64 0, .int .u64 0, .int .u64 0, .int .u64 0, .int .u64 0, .int .u64 0, .int .u64 0, .int .u64 0, .int .u64 0, .int .u64 0, .int .u64 0, .int .u64 0] (by exact HX.out.2) (by rw [ar_size]; exact info16u) (by rw [ar_size]; rfl) (ar_one _ _ _) ?_)
  rw [HX.out.1]
  obtain ⟨w3, hw3⟩ : ∃ w3, ((w2.alloc (.cells #[.int .u64 0, .int .u64 0, .int .u64 0, .int .u64 0, .int .u64 0, .int .u64 0, .int .u64 0, .int .u64 0, .int .u64 0, .int .u64 0, .int .u64 0, .int .u64 0, .int .u64 0, .int .u64 0, .int .u64 0, .int .u64 0] 55)).setRow V (ar .u64 16 (bg0 h 0))) = w3 := ⟨_, rfl⟩
  rw [hw3] at H5 ⊢
  clear hw3 HX
  go_loopw [13] (fun i wr => ∃ k : Nat, k ≤ 8 ∧ i = .int .i64 k ∧ Hid (CG w h m t V pg (bg0 h k) wr)) (fun i _ => 8 - (intOf i).toNat)
  case atStart => exact ⟨0, by omega, rfl, H5⟩
  case round =>
    obtain ⟨k, hk, rfl, H⟩ := hrel
    clear H5
    have hk0 : (0 : Int) ≤ k := by omega
    by_cases hlt : k < 8
    · have hlt' : (k : Int) < 8 := by omega
      obtain ⟨q, hq⟩ : ∃ q : Nat, 8 + k = q := ⟨_, rfl⟩
      have HQ := Lib.hid (And.intro hq (show q < 16 by omega))
      have HK := Lib.hid hlt
      clear hq
      go_wp2_with fail
      have H0n := Lib.hid (show CB w h m t V pg k q wr from ⟨bg0 h k, H.out, fun _ _ _ => rfl⟩)
      clear H
      refine region_tie (CB w h m t V pg k q) (fun i s wx => match i with | 0 => s 25 = (.int .i64 (k : Nat)) | 1 => s 26 = (.int .i64 (k : Nat)) | 2 => s 27 = (.int .i64 (q : Nat)) | 3 => s 28 = (.int .i64 (k : Nat)) | 4 => s 29 = (.pointer (some ⟨w.heap.size, k, none⟩)) | 5 => s 30 = (.int .u64 (h k)) | 6 => s 31 = (.slice (some ⟨pg, 0, none⟩) 8 pc) | 7 => s 32 = (.int .i64 (k : Nat)) | 8 => s 33 = (.pointer (some ⟨pg, k, none⟩)) | 9 => s 34 = (.int .u64 (pr k : Nat)) | 10 => s 35 = .int .u64 (ivT q) | 11 => s 36 = (.pointer (some ⟨V, k, none⟩)) | 12 => wx.cell? ⟨V, k, none⟩ = some (.int .u64 (h k)) | 13 => s 37 = (.pointer (some ⟨V, q, none⟩)) | 14 => wx.cell? ⟨V, q, none⟩ = some (.int .u64 (ivT q)) | _ => True) (RB2 V k q (h k) (ivT q)) (fun i => match i with | 0 => [25] | 1 => [26] | 2 => [27] | 3 => [28] | 4 => [29] | 5 => [30] | 6 => [31] | 7 => [32] | 8 => [33] | 9 => [34] | 10 => [35] | 11 => [36] | 12 => [] | 13 => [37] | 14 => [] | _ => []) (fun i => i) (by kernel_rfl) (by kernel_rfl) H0n.out.drew ?_ ?_ ?_ ?_
      · intro i s s' wx he hp
        match i, he, hp with
        | 0, he, hp => exact (he 25 (by simp)).symm.trans hp
        | 1, he, hp => exact (he 26 (by simp)).symm.trans hp
        | 2, he, hp => exact (he 27 (by simp)).symm.trans hp
        | 3, he, hp => exact (he 28 (by simp)).symm.trans hp
        | 4, he, hp => exact (he 29 (by simp)).symm.trans hp
        | 5, he, hp => exact (he 30 (by simp)).symm.trans hp
        | 6, he, hp => exact (he 31 (by simp)).symm.trans hp
        | 7, he, hp => exact (he 32 (by simp)).symm.trans hp
        | 8, he, hp => exact (he 33 (by simp)).symm.trans hp
        | 9, he, hp => exact (he 34 (by simp)).symm.trans hp
        | 10, he, hp => exact (he 35 (by simp)).symm.trans hp
        | 11, he, hp => exact (he 36 (by simp)).symm.trans hp
        | 12, he, hp => exact hp
        | 13, he, hp => exact (he 37 (by simp)).symm.trans hp
        | 14, he, hp => exact hp
        | _ + 15, _, _ => trivial
      · intro i s wa wb hR hp
        match i, hp with
        | 0, hp => exact hp
        | 1, hp => exact hp
        | 2, hp => exact hp
        | 3, hp => exact hp
        | 4, hp => exact hp
        | 5, hp => exact hp
        | 6, hp => exact hp
        | 7, hp => exact hp
        | 8, hp => exact hp
        | 9, hp => exact hp
        | 10, hp => exact hp
        | 11, hp => exact hp
        | 12, hp => exact hR.1 hp
        | 13, hp => exact hp
        | 14, hp => exact hR.2 hp
        | _ + 15, _ => trivial
      · refine ⟨?_, ?_, ?_, ?_, ?_, ?_, ?_, ?_, ?_, ?_, ?_, ?_, ?_, ?_, ?_, trivial⟩
        · intro a wx hC hsz hK
          have h0 : a.tmps.getD 13 undef = (.int .i64 (k : Nat)) := hK.1 13 (by kernel_rfl)
          exact tt_val ((.int .i64 (k : Nat))) (by kernel_rfl) (by rw [← h0]; kernel_rfl) hC (slots_put _ _ _ (by rw [hsz]; exact of_decide_eq_true (by kernel_rfl))) (RB2.refl _ _ _ _ _ _)
        · intro a wx hC hsz hK
          have h0 : a.tmps.getD 13 undef = (.int .i64 (k : Nat)) := hK.1 13 (by kernel_rfl)
          exact tt_val ((.int .i64 (k : Nat))) (by kernel_rfl) (by rw [← h0]; kernel_rfl) hC (slots_put _ _ _ (by rw [hsz]; exact of_decide_eq_true (by kernel_rfl))) (RB2.refl _ _ _ _ _ _)
        · intro a wx hC hsz hK
          have h0 : a.tmps.getD 26 undef = (.int .i64 (k : Nat)) := hK.2 ⟨1, .data⟩ (by simp) rfl _ rfl
          refine tt_v (binOp BinOp.add 3 (.int .i64 (8 : Nat)) (a.tmps.getD 26 undef)) ((.int .i64 (q : Nat))) (by kernel_rfl) (by kernel_rfl) ?_ hC (slots_put _ _ _ (by rw [hsz]; exact of_decide_eq_true (by kernel_rfl))) (RB2.refl _ _ _ _ _ _)
          rw [h0]
          exact add_i _ _ _ HQ.out.1 (by have := HQ.out.2; omega) wx
        · intro a wx hC hsz hK
          have h0 : a.tmps.getD 13 undef = (.int .i64 (k : Nat)) := hK.1 13 (by kernel_rfl)
          exact tt_val ((.int .i64 (k : Nat))) (by kernel_rfl) (by rw [← h0]; kernel_rfl) hC (slots_put _ _ _ (by rw [hsz]; exact of_decide_eq_true (by kernel_rfl))) (RB2.refl _ _ _ _ _ _)
        · intro a wx hC hsz hK
          have h0 : a.tmps.getD 6 undef = (.pointer (some ⟨w.heap.size, 0, none⟩)) := hK.1 6 (by kernel_rfl)
          have h1 : a.tmps.getD 28 undef = (.int .i64 (k : Nat)) := hK.2 ⟨3, .data⟩ (by simp) rfl _ rfl
          refine tt_v (Instr.indexAt 54 (a.tmps.getD 6 undef) (a.tmps.getD 28 undef)) ((.pointer (some ⟨w.heap.size, k, none⟩))) (by kernel_rfl) (by kernel_rfl) ?_ hC (slots_put _ _ _ (by rw [hsz]; exact of_decide_eq_true (by kernel_rfl))) (RB2.refl _ _ _ _ _ _)
          rw [h0, h1]
          exact at8 _ _ HK.out wx
        · intro a wx hC hsz hK
          have h0 : a.tmps.getD 29 undef = (.pointer (some ⟨w.heap.size, k, none⟩)) := hK.2 ⟨4, .data⟩ (by simp) rfl _ rfl
          exact tt_load 34 (.tmp 29) ((.pointer (some ⟨w.heap.size, k, none⟩))) ((.int .u64 (h k))) rfl (by kernel_rfl) h0 (load_u64 _ _ _ _ (hC.at_h HK.out)) hC (slots_put _ _ _ (by rw [hsz]; exact of_decide_eq_true (by kernel_rfl))) (RB2.refl _ _ _ _ _ _)
        · intro a wx hC hsz hK
          have h0 : a.tmps.getD 12 undef = (.slice (some ⟨pg, 0, none⟩) 8 pc) := hK.1 12 (by kernel_rfl)
          exact tt_val ((.slice (some ⟨pg, 0, none⟩) 8 pc)) (by kernel_rfl) (by rw [← h0]; kernel_rfl) hC (slots_put _ _ _ (by rw [hsz]; exact of_decide_eq_true (by kernel_rfl))) (RB2.refl _ _ _ _ _ _)
        · intro a wx hC hsz hK
          have h0 : a.tmps.getD 13 undef = (.int .i64 (k : Nat)) := hK.1 13 (by kernel_rfl)
          exact tt_val ((.int .i64 (k : Nat))) (by kernel_rfl) (by rw [← h0]; kernel_rfl) hC (slots_put _ _ _ (by rw [hsz]; exact of_decide_eq_true (by kernel_rfl))) (RB2.refl _ _ _ _ _ _)
        · intro a wx hC hsz hK
          have h0 : a.tmps.getD 31 undef = (.slice (some ⟨pg, 0, none⟩) 8 pc) := hK.2 ⟨6, .data⟩ (by simp) rfl _ rfl
          have h1 : a.tmps.getD 32 undef = (.int .i64 (k : Nat)) := hK.2 ⟨7, .data⟩ (by simp) rfl _ rfl
          refine tt_v (Instr.indexAt 71 (a.tmps.getD 31 undef) (a.tmps.getD 32 undef)) ((.pointer (some ⟨pg, k, none⟩))) (by kernel_rfl) (by kernel_rfl) ?_ hC (slots_put _ _ _ (by rw [hsz]; exact of_decide_eq_true (by kernel_rfl))) (RB2.refl _ _ _ _ _ _)
          rw [h0, h1]
          exact atLu _ _ _ _ HK.out wx
        · intro a wx hC hsz hK
          have h0 : a.tmps.getD 33 undef = (.pointer (some ⟨pg, k, none⟩)) := hK.2 ⟨8, .data⟩ (by simp) rfl _ rfl
          exact tt_load 34 (.tmp 33) ((.pointer (some ⟨pg, k, none⟩))) ((.int .u64 (pr k : Nat))) rfl (by kernel_rfl) h0 (load_u64 _ _ _ _ (hC.at_p HK.out)) hC (slots_put _ _ _ (by rw [hsz]; exact of_decide_eq_true (by kernel_rfl))) (RB2.refl _ _ _ _ _ _)
        · intro a wx hC hsz hK
          have h0 : a.tmps.getD 34 undef = (.int .u64 (pr k : Nat)) := hK.2 ⟨9, .data⟩ (by simp) rfl _ rfl
          refine tt_call 68 #[a.tmps.getD 34 undef, .int .i64 2, .int .i64 64] (by kernel_rfl) (by kernel_rfl) ?_
          rw [h0]
          exact (frac_iv k HK.out wx).mono fun e w' hh => ⟨.int .u64 (ivT q), by rw [hh.1, HQ.out.1], hC.below hh.2, (slots_put _ _ _ (by rw [hsz]; exact of_decide_eq_true (by kernel_rfl))), RB2.of hC.high hh.2⟩
        · intro a wx hC hsz hK
          have h0 : a.tmps.getD 11 undef = (.pointer (some ⟨V, 0, none⟩)) := hK.1 11 (by kernel_rfl)
          have h1 : a.tmps.getD 25 undef = (.int .i64 (k : Nat)) := hK.2 ⟨0, .data⟩ (by simp) rfl _ rfl
          refine tt_v (Instr.indexAt 55 (a.tmps.getD 11 undef) (a.tmps.getD 25 undef)) ((.pointer (some ⟨V, k, none⟩))) (by kernel_rfl) (by kernel_rfl) ?_ hC (slots_put _ _ _ (by rw [hsz]; exact of_decide_eq_true (by kernel_rfl))) (RB2.refl _ _ _ _ _ _)
          rw [h0, h1]
          exact at16 _ _ (by have := HK.out; omega) wx
        · intro a wx hC hsz hK
          have h0 : a.tmps.getD 36 undef = (.pointer (some ⟨V, k, none⟩)) := hK.2 ⟨11, .data⟩ (by simp) rfl _ rfl
          have h1 : a.tmps.getD 30 undef = (.int .u64 (h k)) := hK.2 ⟨5, .data⟩ (by simp) rfl _ rfl
          exact tt_store (by kernel_rfl) rfl (run_st 34 (.tmp 36) (.tmp 30) _ _ rfl h0 h1 (hC.store k (by have := HK.out; omega) _)) (hC.set k (by have := HK.out; omega) (.inl rfl) _) (hC.same k (by have := HK.out; omega) _) ⟨fun _ => hC.same k (by have := HK.out; omega) _, fun h9 => far_cell h9 (by have := HQ.out.1; have := HK.out; omega)⟩
        · intro a wx hC hsz hK
          have h0 : a.tmps.getD 11 undef = (.pointer (some ⟨V, 0, none⟩)) := hK.1 11 (by kernel_rfl)
          have h1 : a.tmps.getD 27 undef = (.int .i64 (q : Nat)) := hK.2 ⟨2, .data⟩ (by simp) rfl _ rfl
          refine tt_v (Instr.indexAt 55 (a.tmps.getD 11 undef) (a.tmps.getD 27 undef)) ((.pointer (some ⟨V, q, none⟩))) (by kernel_rfl) (by kernel_rfl) ?_ hC (slots_put _ _ _ (by rw [hsz]; exact of_decide_eq_true (by kernel_rfl))) (RB2.refl _ _ _ _ _ _)
          rw [h0, h1]
          exact at16 _ _ HQ.out.2 wx
        · intro a wx hC hsz hK
          have h0 : a.tmps.getD 37 undef = (.pointer (some ⟨V, q, none⟩)) := hK.2 ⟨13, .data⟩ (by simp) rfl _ rfl
          have h1 : a.tmps.getD 35 undef = (.int .u64 (ivT q)) := hK.2 ⟨10, .data⟩ (by simp) rfl _ rfl
          exact tt_store (by kernel_rfl) rfl (run_st 34 (.tmp 37) (.tmp 35) _ _ rfl h0 h1 (hC.store q HQ.out.2 _)) (hC.set q HQ.out.2 (.inr rfl) _) (hC.same q HQ.out.2 _) ⟨fun h9 => far_cell h9 (by have := HQ.out.1; have := HK.out; omega), fun _ => hC.same q HQ.out.2 _⟩
      intro f1 wx hCy hf
      have ka := hf 12 _ rfl
      have kb := hf 14 _ rfl
      have HS2 := Lib.hid (show CG w h m t V pg (bg0 h (k + 1)) wx from by
        obtain ⟨f, hc, hfv⟩ := hCy
        have ga : f k = h k := by have := (cell_row16 hc.rV k (by have := HK.out; omega)).symm.trans ka; injection this with this; injection this
        have gb : f q = ivT q := by have := (cell_row16 hc.rV q HQ.out.2).symm.trans kb; injection this with this; injection this
        have e : f = bg0 h (k + 1) := by
          funext i
          rw [← bg0_next HK.out HQ.out.1 i]
          unfold updI
          by_cases i1 : i = q
          · rw [if_pos i1, i1]; exact gb
          · rw [if_neg i1]
            by_cases i2 : i = k
            · rw [if_pos i2, i2]; exact ga
            · rw [if_neg i2]; exact hfv i i2 i1
        rw [← e]; exact hc)
      clear hCy hf ka kb H0n
      simp only [putAll, Act.put, List.setIfInBounds_toArray, List.set_cons_succ, List.set_cons_zero]
      go_wp2_with fail
      go_roundw
      case rel =>
        exact ⟨k + 1, by have := HK.out; omega, by go_num, HS2⟩
      case measure => simp [intOf]; omega
    · obtain rfl : k = 8 := by omega
      have hlt' : ¬ ((8 : Nat) : Int) < 8 := by omega
      have H6 := Lib.hid (show CG w h m t V pg (bgh h) wr from by
        have c := H.out
        exact ⟨c.old, c.r0, c.r1, c.r2, c.r3, by rw [← bg0_full]; exact c.rV, c.hV, c.pl, c.pb⟩)
      clear H hlt hlt' hk
      simp only [Int.cast_ofNat_Int]
      go_wp2_with fail
      have c12 : wr.cell? ⟨V, 12, none⟩ = some (.int .u64 (ivT 12)) := cell_row16 H6.out.rV 12 (by omega)
      have f12 := frozen_of_row wr V 12 _ _ H6.out.rV
      have c13 : wr.cell? ⟨V, 13, none⟩ = some (.int .u64 (ivT 13)) := cell_row16 H6.out.rV 13 (by omega)
      have f13 := frozen_of_row wr V 13 _ _ H6.out.rV
      have t0 : wr.cell? ⟨w.heap.size + 1 + 1, 0, none⟩ = some (.int .u64 (t 0)) := (cell_of_row _ _ 0 _ _ _ H6.out.r2).trans (ar_at _ _ _ _ (by omega))
      have t1 : wr.cell? ⟨w.heap.size + 1 + 1, 1, none⟩ = some (.int .u64 (t 1)) := (cell_of_row _ _ 1 _ _ _ H6.out.r2).trans (ar_at _ _ _ _ (by omega))
      have HS := Lib.hid (H6.out.set 12 (by omega) (bits .xor .u64 (ivT 12) (t 0)))
      have HS2 := Lib.hid (HS.out.set 13 (by omega) (bits .xor .u64 (ivT 13) (t 1)))
      have hVt : w.heap.size + 1 + 1 ≠ V := by have := H6.out.hV; omega
      have f13b := frozen_of_row (wr.setCell ⟨V, 12, none⟩ (.int .u64 (bits .xor .u64 (ivT 12) (t 0)))) V 13 _ _ HS.out.rV
      clear H6
      go_region
      have HS3 := Lib.hid HS2.out.drew
      obtain ⟨wz, hwz⟩ : ∃ wz, ((wr.setCell ⟨V, 12, none⟩ (.int .u64 (bits .xor .u64 (ivT 12) (t 0)))).setCell ⟨V, 13, none⟩ (.int .u64 (bits .xor .u64 (ivT 13) (t 1)))).drew = wz := ⟨_, rfl⟩
      rw [hwz] at HS3 ⊢
      clear hwz HS HS2 c12 f12 c13 f13 t0 t1 f13b hVt
      cases last with
      | false =>
        have H7 := Lib.hid (show CG w h m t V pg (bgn h t false) wz from HS3.out)
        clear HS3
        go_wp2_with fail
        obtain ⟨v0, hv0⟩ : ∃ v0, bgn h t false = v0 := ⟨_, rfl⟩
        rw [hv0] at H7
        have HV0 := Lib.hid hv0
        clear hv0
        go_loopw [14] (fun i wr => ∃ n : Nat, n ≤ N ∧ i = .int .i64 n ∧ Hid (CG w h m t V pg (vrn v0 m n) wr)) (fun i _ => N - (intOf i).toNat)
        case atStart => exact ⟨0, by omega, rfl, H7⟩
        case round =>
          obtain ⟨n, hn, rfl, H⟩ := hrel
          clear H7
          have hn0 : (0 : Int) ≤ n := by omega
          have hr1 := HN.out.2
          have hN2 := HN.out.1
          have hcv : IntKind.i64.wrap (r : Int) = (r : Int) := by rw [IntKind.wrap_i64]; omega
          by_cases hlt : n < N
          · have hlr : (n : Int) < r := by omega
            have hl6 : (n : Int) < 65536 := by omega
            have HL0 := Lib.hid (And.intro hlt (show n < 65536 by omega))
            clear hr1 hN2 hlt
            go_wp2_with fail
            refine (brow_any n HL0.out.2 _).mono ?_
            rintro e w5 ⟨rg, cg, rfl, hown, hb⟩
            obtain ⟨s, hs⟩ : ∃ s, sig (n % 10) = s := ⟨_, rfl⟩
            obtain ⟨vv, hvv⟩ : ∃ vv, vrn v0 m n = vv := ⟨_, rfl⟩
            have HSV := Lib.hid (And.intro hs hvv)
            have HSS := Lib.hid (show ∀ j, j < 16 → s j < 16 from fun j hj => by rw [← hs]; exact sig_lt _ _ (by omega) hj)
            rw [hs] at hown
            rw [hvv] at H
            have HJ3 := Lib.hid (show CS w h m t V pg rg s (mxc vv (ord m s) 0) w5 from ⟨H.out.below hb, fun j hj => (hown.cellAt j (by omega)).trans (pi_at s 16 j hj), by have := hown.lt rg rfl; have := H.out.high; omega, (hown.lt rg rfl).2⟩)
            clear hown hb hs hvv H
            go_wp2_with fail
            go_loopw [16] (fun i wr => ∃ k : Nat, k ≤ 4 ∧ i = .int .i64 k ∧ Hid (CS w h m t V pg rg s (mxc vv (ord m s) k) wr)) (fun i _ => 4 - (intOf i).toNat)
            case atStart => exact ⟨0, by omega, rfl, HJ3⟩
            case round =>
              obtain ⟨k, hk, rfl, H⟩ := hrel
              clear HJ3
              have hk0 : (0 : Int) ≤ k := by omega
              by_cases hlt : k < 4
              · have hlt' : (k : Int) < 4 := by omega
                obtain ⟨v, hv⟩ : ∃ v, mxc vv (ord m s) k = v := ⟨_, rfl⟩
                obtain ⟨v', hv'⟩ : ∃ v', mxc vv (ord m s) (k + 1) = v' := ⟨_, rfl⟩
                rw [hv] at H
                obtain ⟨b, hb⟩ : ∃ b, 4 + k = b := ⟨_, rfl⟩
                obtain ⟨c, hc⟩ : ∃ c, 8 + k = c := ⟨_, rfl⟩
                obtain ⟨d, hd⟩ : ∃ d, 12 + k = d := ⟨_, rfl⟩
                obtain ⟨kk, hkk⟩ : ∃ kk, 2 * k = kk := ⟨_, rfl⟩
                obtain ⟨e2, he2⟩ : ∃ e2, kk + 1 = e2 := ⟨_, rfl⟩
                obtain ⟨s1, hs1⟩ : ∃ s1, s kk = s1 := ⟨_, rfl⟩
                obtain ⟨s2, hs2⟩ : ∃ s2, s e2 = s2 := ⟨_, rfl⟩
                obtain ⟨X, hX⟩ : ∃ X, m s1 = X := ⟨_, rfl⟩
                obtain ⟨Y, hY⟩ : ∃ Y, m s2 = Y := ⟨_, rfl⟩
                have HMX := Lib.hid (show ∀ g wx, L4 wx g k b c d → Calls Tryd.prog 70 #[.agg (ar .u64 16 v), .slice (some ⟨g, 0, none⟩) 4 4, .int .u64 X, .int .u64 Y] wx (fun e w' => e = .returned (.agg (ar .u64 16 v')) ∧ Below wx.heap.size wx w') from fun g wx h4 => by
                  have e1 : mxv v k b c d X Y = v' := by
                    rw [← hv', ← hv, ← hb, ← hc, ← hd, ← hX, ← hY, ← hs1, ← hs2, ← he2, ← hkk]
                    rfl
                  rw [← e1]
                  exact brmix_any g k b c d v X Y (by omega) (by omega) (by omega) (by omega) (by omega) (by omega) (by omega) (by omega) (by omega) (by omega) wx h4)
                have hl1 := HSS.out kk (by omega)
                have hl2 := HSS.out e2 (by omega)
                rw [hs1] at hl1
                rw [hs2] at hl2
                have HK := Lib.hid (And.intro (And.intro hb (And.intro hc hd)) (And.intro hkk (And.intro True.intro he2)))
                have HL := Lib.hid (show k < 4 ∧ b < 16 ∧ c < 16 ∧ d < 16 ∧ kk < 16 ∧ e2 < 16 ∧ s1 < 16 ∧ s2 < 16 from ⟨hlt, by omega, by omega, by omega, by omega, by omega, hl1, hl2⟩)
                have HS1 := Lib.hid hs1
                have HS2 := Lib.hid hs2
                have HX := Lib.hid hX
                have HY := Lib.hid hY
                have HVV := Lib.hid hv'
                clear hl1 hl2 hs1 hs2 hX hY hv hv' hb hc hd hkk he2
                go_wp2_with fail
                refine region_tieL (CS w h m t V pg rg s v) (CS w h m t V pg rg s v') 25 (fun i => match i with | 0 => 24 | 1 => 8 | 2 => 3 | 3 => 8 | 4 => 5 | 5 => 8 | 6 => 7 | 7 => 8 | 8 => 24 | 9 => 12 | 10 => 11 | 11 => 12 | 12 => 13 | 13 => 14 | 14 => 15 | 15 => 24 | 16 => 20 | 17 => 18 | 18 => 19 | 19 => 20 | 20 => 21 | 21 => 22 | 22 => 23 | 23 => 24 | 24 => 25 | _ => 0) (fun i s wx => match i with | 0 => s 71 = (.agg (ar .u64 16 v)) | 1 => s 72 = (.int .i64 (k : Nat)) | 2 => s 73 = (.int .i64 (k : Nat)) | 3 => s 74 = (.int .i64 (b : Nat)) | 4 => s 75 = (.int .i64 (k : Nat)) | 5 => s 76 = (.int .i64 (c : Nat)) | 6 => s 77 = (.int .i64 (k : Nat)) | 7 => s 78 = (.int .i64 (d : Nat)) | 8 => ∃ g, s 79 = .slice (some ⟨g, 0, none⟩) 4 4 ∧ V < g ∧ L4 wx g k b c d | 9 => s 80 = (.slice (some ⟨rg, 0, none⟩) 16 cg) | 10 => s 81 = (.int .i64 (k : Nat)) | 11 => s 82 = (.int .i64 (kk : Nat)) | 12 => s 83 = (.pointer (some ⟨rg, kk, none⟩)) | 13 => s 84 = (.int .i64 (s1 : Nat)) | 14 => s 85 = (.pointer (some ⟨w.heap.size + 1, s1, none⟩)) | 15 => s 86 = (.int .u64 X) | 16 => s 87 = (.slice (some ⟨rg, 0, none⟩) 16 cg) | 17 => s 88 = (.int .i64 (k : Nat)) | 18 => s 89 = (.int .i64 (kk : Nat)) | 19 => s 90 = (.int .i64 (e2 : Nat)) | 20 => s 91 = (.pointer (some ⟨rg, e2, none⟩)) | 21 => s 92 = (.int .i64 (s2 : Nat)) | 22 => s 93 = (.pointer (some ⟨w.heap.size + 1, s2, none⟩)) | 23 => s 94 = (.int .u64 Y) | 24 => s 95 = .agg (ar .u64 16 v') | 25 => True | _ => True) (RV V) (fun i => match i with | 0 => [71] | 1 => [72] | 2 => [73] | 3 => [74] | 4 => [75] | 5 => [76] | 6 => [77] | 7 => [78] | 8 => [79] | 9 => [80] | 10 => [81] | 11 => [82] | 12 => [83] | 13 => [84] | 14 => [85] | 15 => [86] | 16 => [87] | 17 => [88] | 18 => [89] | 19 => [90] | 20 => [91] | 21 => [92] | 22 => [93] | 23 => [94] | 24 => [95] | 25 => [] | _ => []) (fun i => i) (by kernel_rfl) (by kernel_rfl) (by kernel_rfl) H.out.drew ?_ ?_ ?_ ?_
                · intro i s s' wx he hp
                  match i, he, hp with
                  | 0, he, hp => exact (he 71 (by simp)).symm.trans hp
                  | 1, he, hp => exact (he 72 (by simp)).symm.trans hp
                  | 2, he, hp => exact (he 73 (by simp)).symm.trans hp
                  | 3, he, hp => exact (he 74 (by simp)).symm.trans hp
                  | 4, he, hp => exact (he 75 (by simp)).symm.trans hp
                  | 5, he, hp => exact (he 76 (by simp)).symm.trans hp
                  | 6, he, hp => exact (he 77 (by simp)).symm.trans hp
                  | 7, he, hp => exact (he 78 (by simp)).symm.trans hp
                  | 8, he, hp => obtain ⟨g, h1, h2, h3⟩ := hp; exact ⟨g, (he 79 (by simp)).symm.trans h1, h2, h3⟩
                  | 9, he, hp => exact (he 80 (by simp)).symm.trans hp
                  | 10, he, hp => exact (he 81 (by simp)).symm.trans hp
                  | 11, he, hp => exact (he 82 (by simp)).symm.trans hp
                  | 12, he, hp => exact (he 83 (by simp)).symm.trans hp
                  | 13, he, hp => exact (he 84 (by simp)).symm.trans hp
                  | 14, he, hp => exact (he 85 (by simp)).symm.trans hp
                  | 15, he, hp => exact (he 86 (by simp)).symm.trans hp
                  | 16, he, hp => exact (he 87 (by simp)).symm.trans hp
                  | 17, he, hp => exact (he 88 (by simp)).symm.trans hp
                  | 18, he, hp => exact (he 89 (by simp)).symm.trans hp
                  | 19, he, hp => exact (he 90 (by simp)).symm.trans hp
                  | 20, he, hp => exact (he 91 (by simp)).symm.trans hp
                  | 21, he, hp => exact (he 92 (by simp)).symm.trans hp
                  | 22, he, hp => exact (he 93 (by simp)).symm.trans hp
                  | 23, he, hp => exact (he 94 (by simp)).symm.trans hp
                  | 24, he, hp => exact (he 95 (by simp)).symm.trans hp
                  | 25, he, hp => trivial
                  | _ + 26, _, _ => trivial
                · intro i s wa wb hR hp
                  match i, hp with
                  | 0, hp => exact hp
                  | 1, hp => exact hp
                  | 2, hp => exact hp
                  | 3, hp => exact hp
                  | 4, hp => exact hp
                  | 5, hp => exact hp
                  | 6, hp => exact hp
                  | 7, hp => exact hp
                  | 8, hp => obtain ⟨g, h1, h2, h3⟩ := hp; exact ⟨g, h1, h2, h3.rv h2 hR⟩
                  | 9, hp => exact hp
                  | 10, hp => exact hp
                  | 11, hp => exact hp
                  | 12, hp => exact hp
                  | 13, hp => exact hp
                  | 14, hp => exact hp
                  | 15, hp => exact hp
                  | 16, hp => exact hp
                  | 17, hp => exact hp
                  | 18, hp => exact hp
                  | 19, hp => exact hp
                  | 20, hp => exact hp
                  | 21, hp => exact hp
                  | 22, hp => exact hp
                  | 23, hp => exact hp
                  | 24, hp => exact hp
                  | 25, hp => trivial
                  | _ + 26, _ => trivial
                · refine ⟨?_, ?_, ?_, ?_, ?_, ?_, ?_, ?_, ?_, ?_, ?_, ?_, ?_, ?_, ?_, ?_, ?_, ?_, ?_, ?_, ?_, ?_, ?_, ?_, ?_, ?_, trivial⟩
                  · intro a wx hC hsz hK
                    refine ⟨by kernel_rfl, ?_⟩
                    have h0 : a.tmps.getD 11 undef = (.pointer (some ⟨V, 0, none⟩)) := hK.1 11 (by kernel_rfl)
                    exact tt_load 55 (.tmp 11) ((.pointer (some ⟨V, 0, none⟩))) ((.agg (ar .u64 16 v))) rfl (by kernel_rfl) h0 (load_16u hC.g.rV) hC (slots_put _ _ _ (by rw [hsz]; exact of_decide_eq_true (by kernel_rfl))) (RV.refl _ _)
                  · intro a wx hC hsz hK
                    refine ⟨by kernel_rfl, ?_⟩
                    have h0 : a.tmps.getD 16 undef = (.int .i64 (k : Nat)) := hK.1 16 (by kernel_rfl)
                    exact tt_val ((.int .i64 (k : Nat))) (by kernel_rfl) (by rw [← h0]; kernel_rfl) hC (slots_put _ _ _ (by rw [hsz]; exact of_decide_eq_true (by kernel_rfl))) (RV.refl _ _)
                  · intro a wx hC hsz hK
                    refine ⟨by kernel_rfl, ?_⟩
                    have h0 : a.tmps.getD 16 undef = (.int .i64 (k : Nat)) := hK.1 16 (by kernel_rfl)
                    exact tt_val ((.int .i64 (k : Nat))) (by kernel_rfl) (by rw [← h0]; kernel_rfl) hC (slots_put _ _ _ (by rw [hsz]; exact of_decide_eq_true (by kernel_rfl))) (RV.refl _ _)
                  · intro a wx hC hsz hK
                    refine ⟨by kernel_rfl, ?_⟩
                    have h0 : a.tmps.getD 73 undef = (.int .i64 (k : Nat)) := hK.2 ⟨2, .data⟩ (by simp) rfl _ rfl
                    refine tt_v (binOp BinOp.add 3 (.int .i64 (4 : Nat)) (a.tmps.getD 73 undef)) ((.int .i64 (b : Nat))) (by kernel_rfl) (by kernel_rfl) ?_ hC (slots_put _ _ _ (by rw [hsz]; exact of_decide_eq_true (by kernel_rfl))) (RV.refl _ _)
                    rw [h0]
                    exact add_i _ _ _ HK.out.1.1 (by have := HL.out; omega) wx
                  · intro a wx hC hsz hK
                    refine ⟨by kernel_rfl, ?_⟩
                    have h0 : a.tmps.getD 16 undef = (.int .i64 (k : Nat)) := hK.1 16 (by kernel_rfl)
                    exact tt_val ((.int .i64 (k : Nat))) (by kernel_rfl) (by rw [← h0]; kernel_rfl) hC (slots_put _ _ _ (by rw [hsz]; exact of_decide_eq_true (by kernel_rfl))) (RV.refl _ _)
                  · intro a wx hC hsz hK
                    refine ⟨by kernel_rfl, ?_⟩
                    have h0 : a.tmps.getD 75 undef = (.int .i64 (k : Nat)) := hK.2 ⟨4, .data⟩ (by simp) rfl _ rfl
                    refine tt_v (binOp BinOp.add 3 (.int .i64 (8 : Nat)) (a.tmps.getD 75 undef)) ((.int .i64 (c : Nat))) (by kernel_rfl) (by kernel_rfl) ?_ hC (slots_put _ _ _ (by rw [hsz]; exact of_decide_eq_true (by kernel_rfl))) (RV.refl _ _)
                    rw [h0]
                    exact add_i _ _ _ HK.out.1.2.1 (by have := HL.out; omega) wx
                  · intro a wx hC hsz hK
                    refine ⟨by kernel_rfl, ?_⟩
                    have h0 : a.tmps.getD 16 undef = (.int .i64 (k : Nat)) := hK.1 16 (by kernel_rfl)
                    exact tt_val ((.int .i64 (k : Nat))) (by kernel_rfl) (by rw [← h0]; kernel_rfl) hC (slots_put _ _ _ (by rw [hsz]; exact of_decide_eq_true (by kernel_rfl))) (RV.refl _ _)
                  · intro a wx hC hsz hK
                    refine ⟨by kernel_rfl, ?_⟩
                    have h0 : a.tmps.getD 77 undef = (.int .i64 (k : Nat)) := hK.2 ⟨6, .data⟩ (by simp) rfl _ rfl
                    refine tt_v (binOp BinOp.add 3 (.int .i64 (12 : Nat)) (a.tmps.getD 77 undef)) ((.int .i64 (d : Nat))) (by kernel_rfl) (by kernel_rfl) ?_ hC (slots_put _ _ _ (by rw [hsz]; exact of_decide_eq_true (by kernel_rfl))) (RV.refl _ _)
                    rw [h0]
                    exact add_i _ _ _ HK.out.1.2.2 (by have := HL.out; omega) wx
                  · intro a wx hC hsz hK
                    refine ⟨by kernel_rfl, ?_⟩
                    have h0 : a.tmps.getD 72 undef = (.int .i64 (k : Nat)) := hK.2 ⟨1, .data⟩ (by simp) rfl _ rfl
                    have h1 : a.tmps.getD 74 undef = (.int .i64 (b : Nat)) := hK.2 ⟨3, .data⟩ (by simp) rfl _ rfl
                    have h2 : a.tmps.getD 76 undef = (.int .i64 (c : Nat)) := hK.2 ⟨5, .data⟩ (by simp) rfl _ rfl
                    have h3 : a.tmps.getD 78 undef = (.int .i64 (d : Nat)) := hK.2 ⟨7, .data⟩ (by simp) rfl _ rfl
                    refine tt_v (bsl (a.tmps.getD 72 undef) (a.tmps.getD 74 undef) (a.tmps.getD 76 undef) (a.tmps.getD 78 undef)) (.slice (some ⟨wx.heap.size, 0, none⟩) 4 4) (by kernel_rfl) (by kernel_rfl) ?_ (hC.below ((Below.refl _ _).alloc (Nat.le_refl _) (.cells #[.int .i64 (k : Nat), .int .i64 (b : Nat), .int .i64 (c : Nat), .int .i64 (d : Nat)] 3))) ⟨_, (slots_put _ _ _ (by rw [hsz]; exact of_decide_eq_true (by kernel_rfl))), hC.g.high, L4.new _ _ _ _ _⟩ (RV.of ((Below.refl _ _).alloc (Nat.le_refl _) _))
                    rw [h0, h1, h2, h3]
                    exact run_bsl k b c d wx
                  · intro a wx hC hsz hK
                    refine ⟨by kernel_rfl, ?_⟩
                    have h0 : a.tmps.getD 15 undef = (.slice (some ⟨rg, 0, none⟩) 16 cg) := hK.1 15 (by kernel_rfl)
                    exact tt_val ((.slice (some ⟨rg, 0, none⟩) 16 cg)) (by kernel_rfl) (by rw [← h0]; kernel_rfl) hC (slots_put _ _ _ (by rw [hsz]; exact of_decide_eq_true (by kernel_rfl))) (RV.refl _ _)
                  · intro a wx hC hsz hK
                    refine ⟨by kernel_rfl, ?_⟩
                    have h0 : a.tmps.getD 16 undef = (.int .i64 (k : Nat)) := hK.1 16 (by kernel_rfl)
                    exact tt_val ((.int .i64 (k : Nat))) (by kernel_rfl) (by rw [← h0]; kernel_rfl) hC (slots_put _ _ _ (by rw [hsz]; exact of_decide_eq_true (by kernel_rfl))) (RV.refl _ _)
                  · intro a wx hC hsz hK
                    refine ⟨by kernel_rfl, ?_⟩
                    have h0 : a.tmps.getD 81 undef = (.int .i64 (k : Nat)) := hK.2 ⟨10, .data⟩ (by simp) rfl _ rfl
                    refine tt_v (binOp BinOp.mul 3 (.int .i64 (2 : Nat)) (a.tmps.getD 81 undef)) ((.int .i64 (kk : Nat))) (by kernel_rfl) (by kernel_rfl) ?_ hC (slots_put _ _ _ (by rw [hsz]; exact of_decide_eq_true (by kernel_rfl))) (RV.refl _ _)
                    rw [h0]
                    exact mul_i _ _ _ HK.out.2.1 (by have := HL.out; omega) wx
                  · intro a wx hC hsz hK
                    refine ⟨by kernel_rfl, ?_⟩
                    have h0 : a.tmps.getD 80 undef = (.slice (some ⟨rg, 0, none⟩) 16 cg) := hK.2 ⟨9, .data⟩ (by simp) rfl _ rfl
                    have h1 : a.tmps.getD 82 undef = (.int .i64 (kk : Nat)) := hK.2 ⟨11, .data⟩ (by simp) rfl _ rfl
                    refine tt_v (Instr.indexAt 107 (a.tmps.getD 80 undef) (a.tmps.getD 82 undef)) ((.pointer (some ⟨rg, kk, none⟩))) (by kernel_rfl) (by kernel_rfl) ?_ hC (slots_put _ _ _ (by rw [hsz]; exact of_decide_eq_true (by kernel_rfl))) (RV.refl _ _)
                    rw [h0, h1]
                    exact atLi rg 16 cg kk (by have := HL.out; omega) wx
                  · intro a wx hC hsz hK
                    refine ⟨by kernel_rfl, ?_⟩
                    have h0 : a.tmps.getD 83 undef = (.pointer (some ⟨rg, kk, none⟩)) := hK.2 ⟨12, .data⟩ (by simp) rfl _ rfl
                    exact tt_load 3 (.tmp 83) ((.pointer (some ⟨rg, kk, none⟩))) ((.int .i64 (s1 : Nat))) rfl (by kernel_rfl) h0 (by rw [← HS1.out]; exact load_i64 _ _ _ _ (hC.row kk (by have := HL.out; omega))) hC (slots_put _ _ _ (by rw [hsz]; exact of_decide_eq_true (by kernel_rfl))) (RV.refl _ _)
                  · intro a wx hC hsz hK
                    refine ⟨by kernel_rfl, ?_⟩
                    have h0 : a.tmps.getD 7 undef = (.pointer (some ⟨w.heap.size + 1, 0, none⟩)) := hK.1 7 (by kernel_rfl)
                    have h1 : a.tmps.getD 84 undef = (.int .i64 (s1 : Nat)) := hK.2 ⟨13, .data⟩ (by simp) rfl _ rfl
                    refine tt_v (Instr.indexAt 55 (a.tmps.getD 7 undef) (a.tmps.getD 84 undef)) ((.pointer (some ⟨w.heap.size + 1, s1, none⟩))) (by kernel_rfl) (by kernel_rfl) ?_ hC (slots_put _ _ _ (by rw [hsz]; exact of_decide_eq_true (by kernel_rfl))) (RV.refl _ _)
                    rw [h0, h1]
                    exact at16 _ _ (by have := HL.out; omega) wx
                  · intro a wx hC hsz hK
                    refine ⟨by kernel_rfl, ?_⟩
                    have h0 : a.tmps.getD 85 undef = (.pointer (some ⟨w.heap.size + 1, s1, none⟩)) := hK.2 ⟨14, .data⟩ (by simp) rfl _ rfl
                    exact tt_load 34 (.tmp 85) ((.pointer (some ⟨w.heap.size + 1, s1, none⟩))) ((.int .u64 X)) rfl (by kernel_rfl) h0 (load_u64 _ _ _ _ ((cell_row16 hC.g.r1 _ (by have := HL.out; omega)).trans (by rw [HX.out]))) hC (slots_put _ _ _ (by rw [hsz]; exact of_decide_eq_true (by kernel_rfl))) (RV.refl _ _)
                  · intro a wx hC hsz hK
                    refine ⟨by kernel_rfl, ?_⟩
                    have h0 : a.tmps.getD 15 undef = (.slice (some ⟨rg, 0, none⟩) 16 cg) := hK.1 15 (by kernel_rfl)
                    exact tt_val ((.slice (some ⟨rg, 0, none⟩) 16 cg)) (by kernel_rfl) (by rw [← h0]; kernel_rfl) hC (slots_put _ _ _ (by rw [hsz]; exact of_decide_eq_true (by kernel_rfl))) (RV.refl _ _)
                  · intro a wx hC hsz hK
                    refine ⟨by kernel_rfl, ?_⟩
                    have h0 : a.tmps.getD 16 undef = (.int .i64 (k : Nat)) := hK.1 16 (by kernel_rfl)
                    exact tt_val ((.int .i64 (k : Nat))) (by kernel_rfl) (by rw [← h0]; kernel_rfl) hC (slots_put _ _ _ (by rw [hsz]; exact of_decide_eq_true (by kernel_rfl))) (RV.refl _ _)
                  · intro a wx hC hsz hK
                    refine ⟨by kernel_rfl, ?_⟩
                    have h0 : a.tmps.getD 88 undef = (.int .i64 (k : Nat)) := hK.2 ⟨17, .data⟩ (by simp) rfl _ rfl
                    refine tt_v (binOp BinOp.mul 3 (.int .i64 (2 : Nat)) (a.tmps.getD 88 undef)) ((.int .i64 (kk : Nat))) (by kernel_rfl) (by kernel_rfl) ?_ hC (slots_put _ _ _ (by rw [hsz]; exact of_decide_eq_true (by kernel_rfl))) (RV.refl _ _)
                    rw [h0]
                    exact mul_i _ _ _ HK.out.2.1 (by have := HL.out; omega) wx
                  · intro a wx hC hsz hK
                    refine ⟨by kernel_rfl, ?_⟩
                    have h0 : a.tmps.getD 89 undef = (.int .i64 (kk : Nat)) := hK.2 ⟨18, .data⟩ (by simp) rfl _ rfl
                    refine tt_v (binOp BinOp.add 3 (a.tmps.getD 89 undef) (.int .i64 (1 : Nat))) ((.int .i64 (e2 : Nat))) (by kernel_rfl) (by kernel_rfl) ?_ hC (slots_put _ _ _ (by rw [hsz]; exact of_decide_eq_true (by kernel_rfl))) (RV.refl _ _)
                    rw [h0]
                    exact add_i _ _ _ HK.out.2.2.2 (by have := HL.out; omega) wx
                  · intro a wx hC hsz hK
                    refine ⟨by kernel_rfl, ?_⟩
                    have h0 : a.tmps.getD 87 undef = (.slice (some ⟨rg, 0, none⟩) 16 cg) := hK.2 ⟨16, .data⟩ (by simp) rfl _ rfl
                    have h1 : a.tmps.getD 90 undef = (.int .i64 (e2 : Nat)) := hK.2 ⟨19, .data⟩ (by simp) rfl _ rfl
                    refine tt_v (Instr.indexAt 107 (a.tmps.getD 87 undef) (a.tmps.getD 90 undef)) ((.pointer (some ⟨rg, e2, none⟩))) (by kernel_rfl) (by kernel_rfl) ?_ hC (slots_put _ _ _ (by rw [hsz]; exact of_decide_eq_true (by kernel_rfl))) (RV.refl _ _)
                    rw [h0, h1]
                    exact atLi rg 16 cg e2 (by have := HL.out; omega) wx
                  · intro a wx hC hsz hK
                    refine ⟨by kernel_rfl, ?_⟩
                    have h0 : a.tmps.getD 91 undef = (.pointer (some ⟨rg, e2, none⟩)) := hK.2 ⟨20, .data⟩ (by simp) rfl _ rfl
                    exact tt_load 3 (.tmp 91) ((.pointer (some ⟨rg, e2, none⟩))) ((.int .i64 (s2 : Nat))) rfl (by kernel_rfl) h0 (by rw [← HS2.out]; exact load_i64 _ _ _ _ (hC.row e2 (by have := HL.out; omega))) hC (slots_put _ _ _ (by rw [hsz]; exact of_decide_eq_true (by kernel_rfl))) (RV.refl _ _)
                  · intro a wx hC hsz hK
                    refine ⟨by kernel_rfl, ?_⟩
                    have h0 : a.tmps.getD 7 undef = (.pointer (some ⟨w.heap.size + 1, 0, none⟩)) := hK.1 7 (by kernel_rfl)
                    have h1 : a.tmps.getD 92 undef = (.int .i64 (s2 : Nat)) := hK.2 ⟨21, .data⟩ (by simp) rfl _ rfl
                    refine tt_v (Instr.indexAt 55 (a.tmps.getD 7 undef) (a.tmps.getD 92 undef)) ((.pointer (some ⟨w.heap.size + 1, s2, none⟩))) (by kernel_rfl) (by kernel_rfl) ?_ hC (slots_put _ _ _ (by rw [hsz]; exact of_decide_eq_true (by kernel_rfl))) (RV.refl _ _)
                    rw [h0, h1]
                    exact at16 _ _ (by have := HL.out; omega) wx
                  · intro a wx hC hsz hK
                    refine ⟨by kernel_rfl, ?_⟩
                    have h0 : a.tmps.getD 93 undef = (.pointer (some ⟨w.heap.size + 1, s2, none⟩)) := hK.2 ⟨22, .data⟩ (by simp) rfl _ rfl
                    exact tt_load 34 (.tmp 93) ((.pointer (some ⟨w.heap.size + 1, s2, none⟩))) ((.int .u64 Y)) rfl (by kernel_rfl) h0 (load_u64 _ _ _ _ ((cell_row16 hC.g.r1 _ (by have := HL.out; omega)).trans (by rw [HY.out]))) hC (slots_put _ _ _ (by rw [hsz]; exact of_decide_eq_true (by kernel_rfl))) (RV.refl _ _)
                  · intro a wx hC hsz hK
                    refine ⟨by kernel_rfl, ?_⟩
                    have h0 : a.tmps.getD 71 undef = (.agg (ar .u64 16 v)) := hK.2 ⟨0, .data⟩ (by simp) rfl _ rfl
                    obtain ⟨g, h1, h2, h3⟩ := hK.2 ⟨8, .data⟩ (by simp) rfl _ rfl
                    have h4 : a.tmps.getD 86 undef = (.int .u64 X) := hK.2 ⟨15, .data⟩ (by simp) rfl _ rfl
                    have h5 : a.tmps.getD 94 undef = (.int .u64 Y) := hK.2 ⟨23, .data⟩ (by simp) rfl _ rfl
                    refine tt_call 70 #[a.tmps.getD 71 undef, a.tmps.getD 79 undef, a.tmps.getD 86 undef, a.tmps.getD 94 undef] (by kernel_rfl) (by kernel_rfl) ?_
                    rw [h0, h4, h5, show a.tmps.getD 79 undef = _ from h1]
                    exact (HMX.out g wx h3).mono fun e w' hh => ⟨_, hh.1, hC.below hh.2, (slots_put _ _ _ (by rw [hsz]; exact of_decide_eq_true (by kernel_rfl))), RV.of hh.2⟩
                  · intro a wx hC hsz hK
                    refine ⟨by kernel_rfl, ?_⟩
                    have h0 : a.tmps.getD 11 undef = (.pointer (some ⟨V, 0, none⟩)) := hK.1 11 (by kernel_rfl)
                    have h1 : a.tmps.getD 95 undef = (.agg (ar .u64 16 v')) := hK.2 ⟨24, .data⟩ (by simp) rfl _ rfl
                    exact tt_store (by kernel_rfl) rfl (run_st 55 (.tmp 11) (.tmp 95) _ _ rfl h0 h1 (store_16 hC.g.rV)) (hC.set v') trivial (RV.row _)
                intro f1 wy hCy _
                have HC := Lib.hid hCy
                clear hCy H HMX HS1 HS2 HX HY HK
                simp only [putAll, Act.put, List.setIfInBounds_toArray, List.set_cons_succ, List.set_cons_zero]
                go_wp2_with fail
                go_roundw
                case rel => exact ⟨k + 1, by have := HL.out; omega, by go_num, by rw [HVV.out]; exact HC⟩
                case measure => have := HL.out; simp [intOf]; omega
              · obtain rfl : k = 4 := by omega
                have hlt' : ¬ ((4 : Nat) : Int) < 4 := by omega
                have H4 := Lib.hid (show CS w h m t V pg rg s (mxe (mxc vv (ord m s) 4) (ord m s) 0) wr from H.out)
                clear H hlt hk
                obtain ⟨vd, hvd⟩ : ∃ vd, mxc vv (ord m s) 4 = vd := ⟨_, rfl⟩
                rw [hvd] at H4
                have HVD := Lib.hid hvd
                clear hvd
                go_wp2_with fail
                go_loopw [17] (fun i wr => ∃ k : Nat, k ≤ 4 ∧ i = .int .i64 k ∧ Hid (CS w h m t V pg rg s (mxe vd (ord m s) k) wr)) (fun i _ => 4 - (intOf i).toNat)
                case atStart => exact ⟨0, by omega, rfl, H4⟩
                case round =>
                  obtain ⟨k, hk, rfl, H⟩ := hrel
                  clear H4
                  have hk0 : (0 : Int) ≤ k := by omega
                  by_cases hlt : k < 4
                  · have hlt2 : (k : Int) < 4 := by omega
                    obtain ⟨v, hv⟩ : ∃ v, mxe vd (ord m s) k = v := ⟨_, rfl⟩
                    obtain ⟨v', hv'⟩ : ∃ v', mxe vd (ord m s) (k + 1) = v' := ⟨_, rfl⟩
                    rw [hv] at H
                    obtain ⟨k1, hk1⟩ : ∃ k1, k + 1 = k1 := ⟨_, rfl⟩
                    obtain ⟨k2, hk2⟩ : ∃ k2, k + 2 = k2 := ⟨_, rfl⟩
                    obtain ⟨k3, hk3⟩ : ∃ k3, k + 3 = k3 := ⟨_, rfl⟩
                    obtain ⟨q1, hq1⟩ : ∃ q1, k1 % 4 = q1 := ⟨_, rfl⟩
                    obtain ⟨q2, hq2⟩ : ∃ q2, k2 % 4 = q2 := ⟨_, rfl⟩
                    obtain ⟨q3, hq3⟩ : ∃ q3, k3 % 4 = q3 := ⟨_, rfl⟩
                    obtain ⟨b, hb⟩ : ∃ b, 4 + q1 = b := ⟨_, rfl⟩
                    obtain ⟨c, hc⟩ : ∃ c, 8 + q2 = c := ⟨_, rfl⟩
                    obtain ⟨d, hd⟩ : ∃ d, 12 + q3 = d := ⟨_, rfl⟩
                    obtain ⟨kk, hkk⟩ : ∃ kk, 2 * k = kk := ⟨_, rfl⟩
                    obtain ⟨e1, he1⟩ : ∃ e1, 8 + kk = e1 := ⟨_, rfl⟩
                    obtain ⟨e2, he2⟩ : ∃ e2, 9 + kk = e2 := ⟨_, rfl⟩
                    obtain ⟨s1, hs1⟩ : ∃ s1, s e1 = s1 := ⟨_, rfl⟩
                    obtain ⟨s2, hs2⟩ : ∃ s2, s e2 = s2 := ⟨_, rfl⟩
                    obtain ⟨X, hX⟩ : ∃ X, m s1 = X := ⟨_, rfl⟩
                    obtain ⟨Y, hY⟩ : ∃ Y, m s2 = Y := ⟨_, rfl⟩
                    have HMX := Lib.hid (show ∀ g wx, L4 wx g k b c d → Calls Tryd.prog 70 #[.agg (ar .u64 16 v), .slice (some ⟨g, 0, none⟩) 4 4, .int .u64 X, .int .u64 Y] wx (fun e w' => e = .returned (.agg (ar .u64 16 v')) ∧ Below wx.heap.size wx w') from fun g wx h4 => by
                      have e1 : mxv v k b c d X Y = v' := by
                        rw [← hv', ← hv, ← hb, ← hc, ← hd, ← hX, ← hY, ← hs1, ← hs2, ← he1, ← he2, ← hkk, ← hq1, ← hq2, ← hq3, ← hk1, ← hk2, ← hk3]
                        rfl
                      rw [← e1]
                      exact brmix_any g k b c d v X Y (by omega) (by omega) (by omega) (by omega) (by omega) (by omega) (by omega) (by omega) (by omega) (by omega) wx h4)
                    have hl1 := HSS.out e1 (by omega)
                    have hl2 := HSS.out e2 (by omega)
                    rw [hs1] at hl1
                    rw [hs2] at hl2
                    have HK := Lib.hid (And.intro (And.intro hk1 (And.intro hk2 (And.intro hk3 (And.intro hq1 (And.intro hq2 (And.intro hq3 (And.intro hb (And.intro hc hd)))))))) (And.intro hkk (And.intro he1 he2)))
                    have HL := Lib.hid (show k < 4 ∧ b < 16 ∧ c < 16 ∧ d < 16 ∧ kk < 16 ∧ e1 < 16 ∧ e2 < 16 ∧ s1 < 16 ∧ s2 < 16 ∧ k1 < 16 ∧ k2 < 16 ∧ k3 < 16 from ⟨hlt, by omega, by omega, by omega, by omega, by omega, by omega, hl1, hl2, by omega, by omega, by omega⟩)
                    have HS1 := Lib.hid hs1
                    have HS2 := Lib.hid hs2
                    have HX := Lib.hid hX
                    have HY := Lib.hid hY
                    have HVV := Lib.hid hv'
                    clear hl1 hl2 hs1 hs2 hX hY hv hv' hb hc hd hkk he2 hk1 hk2 hk3 hq1 hq2 hq3 he1
                    go_wp2_with fail
                    refine region_tieL (CS w h m t V pg rg s v) (CS w h m t V pg rg s v') 32 (fun i => match i with | 0 => 31 | 1 => 14 | 2 => 3 | 3 => 4 | 4 => 5 | 5 => 14 | 6 => 7 | 7 => 8 | 8 => 9 | 9 => 14 | 10 => 11 | 11 => 12 | 12 => 13 | 13 => 14 | 14 => 31 | 15 => 19 | 16 => 17 | 17 => 18 | 18 => 19 | 19 => 20 | 20 => 21 | 21 => 22 | 22 => 31 | 23 => 27 | 24 => 25 | 25 => 26 | 26 => 27 | 27 => 28 | 28 => 29 | 29 => 30 | 30 => 31 | 31 => 32 | _ => 0) (fun i s wx => match i with | 0 => s 100 = (.agg (ar .u64 16 v)) | 1 => s 101 = (.int .i64 (k : Nat)) | 2 => s 102 = (.int .i64 (k : Nat)) | 3 => s 103 = (.int .i64 (k1 : Nat)) | 4 => s 104 = (.int .i64 (q1 : Nat)) | 5 => s 105 = (.int .i64 (b : Nat)) | 6 => s 106 = (.int .i64 (k : Nat)) | 7 => s 107 = (.int .i64 (k2 : Nat)) | 8 => s 108 = (.int .i64 (q2 : Nat)) | 9 => s 109 = (.int .i64 (c : Nat)) | 10 => s 110 = (.int .i64 (k : Nat)) | 11 => s 111 = (.int .i64 (k3 : Nat)) | 12 => s 112 = (.int .i64 (q3 : Nat)) | 13 => s 113 = (.int .i64 (d : Nat)) | 14 => ∃ g, s 114 = .slice (some ⟨g, 0, none⟩) 4 4 ∧ V < g ∧ L4 wx g k b c d | 15 => s 115 = (.slice (some ⟨rg, 0, none⟩) 16 cg) | 16 => s 116 = (.int .i64 (k : Nat)) | 17 => s 117 = (.int .i64 (kk : Nat)) | 18 => s 118 = (.int .i64 (e1 : Nat)) | 19 => s 119 = (.pointer (some ⟨rg, e1, none⟩)) | 20 => s 120 = (.int .i64 (s1 : Nat)) | 21 => s 121 = (.pointer (some ⟨w.heap.size + 1, s1, none⟩)) | 22 => s 122 = (.int .u64 X) | 23 => s 123 = (.slice (some ⟨rg, 0, none⟩) 16 cg) | 24 => s 124 = (.int .i64 (k : Nat)) | 25 => s 125 = (.int .i64 (kk : Nat)) | 26 => s 126 = (.int .i64 (e2 : Nat)) | 27 => s 127 = (.pointer (some ⟨rg, e2, none⟩)) | 28 => s 128 = (.int .i64 (s2 : Nat)) | 29 => s 129 = (.pointer (some ⟨w.heap.size + 1, s2, none⟩)) | 30 => s 130 = (.int .u64 Y) | 31 => s 131 = .agg (ar .u64 16 v') | 32 => True | _ => True) (RV V) (fun i => match i with | 0 => [100] | 1 => [101] | 2 => [102] | 3 => [103] | 4 => [104] | 5 => [105] | 6 => [106] | 7 => [107] | 8 => [108] | 9 => [109] | 10 => [110] | 11 => [111] | 12 => [112] | 13 => [113] | 14 => [114] | 15 => [115] | 16 => [116] | 17 => [117] | 18 => [118] | 19 => [119] | 20 => [120] | 21 => [121] | 22 => [122] | 23 => [123] | 24 => [124] | 25 => [125] | 26 => [126] | 27 => [127] | 28 => [128] | 29 => [129] | 30 => [130] | 31 => [131] | 32 => [] | _ => []) (fun i => i) (by kernel_rfl) (by kernel_rfl) (by kernel_rfl) H.out.drew ?_ ?_ ?_ ?_
                    · intro i s s' wx he hp
                      match i, he, hp with
                      | 0, he, hp => exact (he 100 (by simp)).symm.trans hp
                      | 1, he, hp => exact (he 101 (by simp)).symm.trans hp
                      | 2, he, hp => exact (he 102 (by simp)).symm.trans hp
                      | 3, he, hp => exact (he 103 (by simp)).symm.trans hp
                      | 4, he, hp => exact (he 104 (by simp)).symm.trans hp
                      | 5, he, hp => exact (he 105 (by simp)).symm.trans hp
                      | 6, he, hp => exact (he 106 (by simp)).symm.trans hp
                      | 7, he, hp => exact (he 107 (by simp)).symm.trans hp
                      | 8, he, hp => exact (he 108 (by simp)).symm.trans hp
                      | 9, he, hp => exact (he 109 (by simp)).symm.trans hp
                      | 10, he, hp => exact (he 110 (by simp)).symm.trans hp
                      | 11, he, hp => exact (he 111 (by simp)).symm.trans hp
                      | 12, he, hp => exact (he 112 (by simp)).symm.trans hp
                      | 13, he, hp => exact (he 113 (by simp)).symm.trans hp
                      | 14, he, hp => obtain ⟨g, h1, h2, h3⟩ := hp; exact ⟨g, (he 114 (by simp)).symm.trans h1, h2, h3⟩
                      | 15, he, hp => exact (he 115 (by simp)).symm.trans hp
                      | 16, he, hp => exact (he 116 (by simp)).symm.trans hp
                      | 17, he, hp => exact (he 117 (by simp)).symm.trans hp
                      | 18, he, hp => exact (he 118 (by simp)).symm.trans hp
                      | 19, he, hp => exact (he 119 (by simp)).symm.trans hp
                      | 20, he, hp => exact (he 120 (by simp)).symm.trans hp
                      | 21, he, hp => exact (he 121 (by simp)).symm.trans hp
                      | 22, he, hp => exact (he 122 (by simp)).symm.trans hp
                      | 23, he, hp => exact (he 123 (by simp)).symm.trans hp
                      | 24, he, hp => exact (he 124 (by simp)).symm.trans hp
                      | 25, he, hp => exact (he 125 (by simp)).symm.trans hp
                      | 26, he, hp => exact (he 126 (by simp)).symm.trans hp
                      | 27, he, hp => exact (he 127 (by simp)).symm.trans hp
                      | 28, he, hp => exact (he 128 (by simp)).symm.trans hp
                      | 29, he, hp => exact (he 129 (by simp)).symm.trans hp
                      | 30, he, hp => exact (he 130 (by simp)).symm.trans hp
                      | 31, he, hp => exact (he 131 (by simp)).symm.trans hp
                      | 32, he, hp => trivial
                      | _ + 33, _, _ => trivial
                    · intro i s wa wb hR hp
                      match i, hp with
                      | 0, hp => exact hp
                      | 1, hp => exact hp
                      | 2, hp => exact hp
                      | 3, hp => exact hp
                      | 4, hp => exact hp
                      | 5, hp => exact hp
                      | 6, hp => exact hp
                      | 7, hp => exact hp
                      | 8, hp => exact hp
                      | 9, hp => exact hp
                      | 10, hp => exact hp
                      | 11, hp => exact hp
                      | 12, hp => exact hp
                      | 13, hp => exact hp
                      | 14, hp => obtain ⟨g, h1, h2, h3⟩ := hp; exact ⟨g, h1, h2, h3.rv h2 hR⟩
                      | 15, hp => exact hp
                      | 16, hp => exact hp
                      | 17, hp => exact hp
                      | 18, hp => exact hp
                      | 19, hp => exact hp
                      | 20, hp => exact hp
                      | 21, hp => exact hp
                      | 22, hp => exact hp
                      | 23, hp => exact hp
                      | 24, hp => exact hp
                      | 25, hp => exact hp
                      | 26, hp => exact hp
                      | 27, hp => exact hp
                      | 28, hp => exact hp
                      | 29, hp => exact hp
                      | 30, hp => exact hp
                      | 31, hp => exact hp
                      | 32, hp => trivial
                      | _ + 33, _ => trivial
                    · refine ⟨?_, ?_, ?_, ?_, ?_, ?_, ?_, ?_, ?_, ?_, ?_, ?_, ?_, ?_, ?_, ?_, ?_, ?_, ?_, ?_, ?_, ?_, ?_, ?_, ?_, ?_, ?_, ?_, ?_, ?_, ?_, ?_, ?_, trivial⟩
                      · intro a wx hC hsz hK
                        refine ⟨by kernel_rfl, ?_⟩
                        have h0 : a.tmps.getD 11 undef = (.pointer (some ⟨V, 0, none⟩)) := hK.1 11 (by kernel_rfl)
                        exact tt_load 55 (.tmp 11) ((.pointer (some ⟨V, 0, none⟩))) ((.agg (ar .u64 16 v))) rfl (by kernel_rfl) h0 (load_16u hC.g.rV) hC (slots_put _ _ _ (by rw [hsz]; exact of_decide_eq_true (by kernel_rfl))) (RV.refl _ _)
                      · intro a wx hC hsz hK
                        refine ⟨by kernel_rfl, ?_⟩
                        have h0 : a.tmps.getD 17 undef = (.int .i64 (k : Nat)) := hK.1 17 (by kernel_rfl)
                        exact tt_val ((.int .i64 (k : Nat))) (by kernel_rfl) (by rw [← h0]; kernel_rfl) hC (slots_put _ _ _ (by rw [hsz]; exact of_decide_eq_true (by kernel_rfl))) (RV.refl _ _)
                      · intro a wx hC hsz hK
                        refine ⟨by kernel_rfl, ?_⟩
                        have h0 : a.tmps.getD 17 undef = (.int .i64 (k : Nat)) := hK.1 17 (by kernel_rfl)
                        exact tt_val ((.int .i64 (k : Nat))) (by kernel_rfl) (by rw [← h0]; kernel_rfl) hC (slots_put _ _ _ (by rw [hsz]; exact of_decide_eq_true (by kernel_rfl))) (RV.refl _ _)
                      · intro a wx hC hsz hK
                        refine ⟨by kernel_rfl, ?_⟩
                        have h0 : a.tmps.getD 102 undef = (.int .i64 (k : Nat)) := hK.2 ⟨2, .data⟩ (by simp) rfl _ rfl
                        refine tt_v (binOp BinOp.add 3 (a.tmps.getD 102 undef) (.int .i64 (1 : Nat))) ((.int .i64 (k1 : Nat))) (by kernel_rfl) (by kernel_rfl) ?_ hC (slots_put _ _ _ (by rw [hsz]; exact of_decide_eq_true (by kernel_rfl))) (RV.refl _ _)
                        rw [h0]
                        exact add_i _ _ _ HK.out.1.1 (by have := HL.out; omega) wx
                      · intro a wx hC hsz hK
                        refine ⟨by kernel_rfl, ?_⟩
                        have h0 : a.tmps.getD 103 undef = (.int .i64 (k1 : Nat)) := hK.2 ⟨3, .data⟩ (by simp) rfl _ rfl
                        refine tt_v (binOp BinOp.rem 3 (a.tmps.getD 103 undef) (.int .i64 4)) ((.int .i64 (q1 : Nat))) (by kernel_rfl) (by kernel_rfl) ?_ hC (slots_put _ _ _ (by rw [hsz]; exact of_decide_eq_true (by kernel_rfl))) (RV.refl _ _)
                        rw [h0]
                        exact rem_i4 _ _ HK.out.1.2.2.2.1 wx
                      · intro a wx hC hsz hK
                        refine ⟨by kernel_rfl, ?_⟩
                        have h0 : a.tmps.getD 104 undef = (.int .i64 (q1 : Nat)) := hK.2 ⟨4, .data⟩ (by simp) rfl _ rfl
                        refine tt_v (binOp BinOp.add 3 (.int .i64 (4 : Nat)) (a.tmps.getD 104 undef)) ((.int .i64 (b : Nat))) (by kernel_rfl) (by kernel_rfl) ?_ hC (slots_put _ _ _ (by rw [hsz]; exact of_decide_eq_true (by kernel_rfl))) (RV.refl _ _)
                        rw [h0]
                        exact add_i _ _ _ HK.out.1.2.2.2.2.2.2.1 (by have := HL.out; omega) wx
                      · intro a wx hC hsz hK
                        refine ⟨by kernel_rfl, ?_⟩
                        have h0 : a.tmps.getD 17 undef = (.int .i64 (k : Nat)) := hK.1 17 (by kernel_rfl)
                        exact tt_val ((.int .i64 (k : Nat))) (by kernel_rfl) (by rw [← h0]; kernel_rfl) hC (slots_put _ _ _ (by rw [hsz]; exact of_decide_eq_true (by kernel_rfl))) (RV.refl _ _)
                      · intro a wx hC hsz hK
                        refine ⟨by kernel_rfl, ?_⟩
                        have h0 : a.tmps.getD 106 undef = (.int .i64 (k : Nat)) := hK.2 ⟨6, .data⟩ (by simp) rfl _ rfl
                        refine tt_v (binOp BinOp.add 3 (a.tmps.getD 106 undef) (.int .i64 (2 : Nat))) ((.int .i64 (k2 : Nat))) (by kernel_rfl) (by kernel_rfl) ?_ hC (slots_put _ _ _ (by rw [hsz]; exact of_decide_eq_true (by kernel_rfl))) (RV.refl _ _)
                        rw [h0]
                        exact add_i _ _ _ HK.out.1.2.1 (by have := HL.out; omega) wx
                      · intro a wx hC hsz hK
                        refine ⟨by kernel_rfl, ?_⟩
                        have h0 : a.tmps.getD 107 undef = (.int .i64 (k2 : Nat)) := hK.2 ⟨7, .data⟩ (by simp) rfl _ rfl
                        refine tt_v (binOp BinOp.rem 3 (a.tmps.getD 107 undef) (.int .i64 4)) ((.int .i64 (q2 : Nat))) (by kernel_rfl) (by kernel_rfl) ?_ hC (slots_put _ _ _ (by rw [hsz]; exact of_decide_eq_true (by kernel_rfl))) (RV.refl _ _)
                        rw [h0]
                        exact rem_i4 _ _ HK.out.1.2.2.2.2.1 wx
                      · intro a wx hC hsz hK
                        refine ⟨by kernel_rfl, ?_⟩
                        have h0 : a.tmps.getD 108 undef = (.int .i64 (q2 : Nat)) := hK.2 ⟨8, .data⟩ (by simp) rfl _ rfl
                        refine tt_v (binOp BinOp.add 3 (.int .i64 (8 : Nat)) (a.tmps.getD 108 undef)) ((.int .i64 (c : Nat))) (by kernel_rfl) (by kernel_rfl) ?_ hC (slots_put _ _ _ (by rw [hsz]; exact of_decide_eq_true (by kernel_rfl))) (RV.refl _ _)
                        rw [h0]
                        exact add_i _ _ _ HK.out.1.2.2.2.2.2.2.2.1 (by have := HL.out; omega) wx
                      · intro a wx hC hsz hK
                        refine ⟨by kernel_rfl, ?_⟩
                        have h0 : a.tmps.getD 17 undef = (.int .i64 (k : Nat)) := hK.1 17 (by kernel_rfl)
                        exact tt_val ((.int .i64 (k : Nat))) (by kernel_rfl) (by rw [← h0]; kernel_rfl) hC (slots_put _ _ _ (by rw [hsz]; exact of_decide_eq_true (by kernel_rfl))) (RV.refl _ _)
                      · intro a wx hC hsz hK
                        refine ⟨by kernel_rfl, ?_⟩
                        have h0 : a.tmps.getD 110 undef = (.int .i64 (k : Nat)) := hK.2 ⟨10, .data⟩ (by simp) rfl _ rfl
                        refine tt_v (binOp BinOp.add 3 (a.tmps.getD 110 undef) (.int .i64 (3 : Nat))) ((.int .i64 (k3 : Nat))) (by kernel_rfl) (by kernel_rfl) ?_ hC (slots_put _ _ _ (by rw [hsz]; exact of_decide_eq_true (by kernel_rfl))) (RV.refl _ _)
                        rw [h0]
                        exact add_i _ _ _ HK.out.1.2.2.1 (by have := HL.out; omega) wx
                      · intro a wx hC hsz hK
                        refine ⟨by kernel_rfl, ?_⟩
                        have h0 : a.tmps.getD 111 undef = (.int .i64 (k3 : Nat)) := hK.2 ⟨11, .data⟩ (by simp) rfl _ rfl
                        refine tt_v (binOp BinOp.rem 3 (a.tmps.getD 111 undef) (.int .i64 4)) ((.int .i64 (q3 : Nat))) (by kernel_rfl) (by kernel_rfl) ?_ hC (slots_put _ _ _ (by rw [hsz]; exact of_decide_eq_true (by kernel_rfl))) (RV.refl _ _)
                        rw [h0]
                        exact rem_i4 _ _ HK.out.1.2.2.2.2.2.1 wx
                      · intro a wx hC hsz hK
                        refine ⟨by kernel_rfl, ?_⟩
                        have h0 : a.tmps.getD 112 undef = (.int .i64 (q3 : Nat)) := hK.2 ⟨12, .data⟩ (by simp) rfl _ rfl
                        refine tt_v (binOp BinOp.add 3 (.int .i64 (12 : Nat)) (a.tmps.getD 112 undef)) ((.int .i64 (d : Nat))) (by kernel_rfl) (by kernel_rfl) ?_ hC (slots_put _ _ _ (by rw [hsz]; exact of_decide_eq_true (by kernel_rfl))) (RV.refl _ _)
                        rw [h0]
                        exact add_i _ _ _ HK.out.1.2.2.2.2.2.2.2.2 (by have := HL.out; omega) wx
                      · intro a wx hC hsz hK
                        refine ⟨by kernel_rfl, ?_⟩
                        have h0 : a.tmps.getD 101 undef = (.int .i64 (k : Nat)) := hK.2 ⟨1, .data⟩ (by simp) rfl _ rfl
                        have h1 : a.tmps.getD 105 undef = (.int .i64 (b : Nat)) := hK.2 ⟨5, .data⟩ (by simp) rfl _ rfl
                        have h2 : a.tmps.getD 109 undef = (.int .i64 (c : Nat)) := hK.2 ⟨9, .data⟩ (by simp) rfl _ rfl
                        have h3 : a.tmps.getD 113 undef = (.int .i64 (d : Nat)) := hK.2 ⟨13, .data⟩ (by simp) rfl _ rfl
                        refine tt_v (bsl (a.tmps.getD 101 undef) (a.tmps.getD 105 undef) (a.tmps.getD 109 undef) (a.tmps.getD 113 undef)) (.slice (some ⟨wx.heap.size, 0, none⟩) 4 4) (by kernel_rfl) (by kernel_rfl) ?_ (hC.below ((Below.refl _ _).alloc (Nat.le_refl _) (.cells #[.int .i64 (k : Nat), .int .i64 (b : Nat), .int .i64 (c : Nat), .int .i64 (d : Nat)] 3))) ⟨_, (slots_put _ _ _ (by rw [hsz]; exact of_decide_eq_true (by kernel_rfl))), hC.g.high, L4.new _ _ _ _ _⟩ (RV.of ((Below.refl _ _).alloc (Nat.le_refl _) _))
                        rw [h0, h1, h2, h3]
                        exact run_bsl k b c d wx
                      · intro a wx hC hsz hK
                        refine ⟨by kernel_rfl, ?_⟩
                        have h0 : a.tmps.getD 15 undef = (.slice (some ⟨rg, 0, none⟩) 16 cg) := hK.1 15 (by kernel_rfl)
                        exact tt_val ((.slice (some ⟨rg, 0, none⟩) 16 cg)) (by kernel_rfl) (by rw [← h0]; kernel_rfl) hC (slots_put _ _ _ (by rw [hsz]; exact of_decide_eq_true (by kernel_rfl))) (RV.refl _ _)
                      · intro a wx hC hsz hK
                        refine ⟨by kernel_rfl, ?_⟩
                        have h0 : a.tmps.getD 17 undef = (.int .i64 (k : Nat)) := hK.1 17 (by kernel_rfl)
                        exact tt_val ((.int .i64 (k : Nat))) (by kernel_rfl) (by rw [← h0]; kernel_rfl) hC (slots_put _ _ _ (by rw [hsz]; exact of_decide_eq_true (by kernel_rfl))) (RV.refl _ _)
                      · intro a wx hC hsz hK
                        refine ⟨by kernel_rfl, ?_⟩
                        have h0 : a.tmps.getD 116 undef = (.int .i64 (k : Nat)) := hK.2 ⟨16, .data⟩ (by simp) rfl _ rfl
                        refine tt_v (binOp BinOp.mul 3 (.int .i64 (2 : Nat)) (a.tmps.getD 116 undef)) ((.int .i64 (kk : Nat))) (by kernel_rfl) (by kernel_rfl) ?_ hC (slots_put _ _ _ (by rw [hsz]; exact of_decide_eq_true (by kernel_rfl))) (RV.refl _ _)
                        rw [h0]
                        exact mul_i _ _ _ HK.out.2.1 (by have := HL.out; omega) wx
                      · intro a wx hC hsz hK
                        refine ⟨by kernel_rfl, ?_⟩
                        have h0 : a.tmps.getD 117 undef = (.int .i64 (kk : Nat)) := hK.2 ⟨17, .data⟩ (by simp) rfl _ rfl
                        refine tt_v (binOp BinOp.add 3 (.int .i64 (8 : Nat)) (a.tmps.getD 117 undef)) ((.int .i64 (e1 : Nat))) (by kernel_rfl) (by kernel_rfl) ?_ hC (slots_put _ _ _ (by rw [hsz]; exact of_decide_eq_true (by kernel_rfl))) (RV.refl _ _)
                        rw [h0]
                        exact add_i _ _ _ HK.out.2.2.1 (by have := HL.out; omega) wx
                      · intro a wx hC hsz hK
                        refine ⟨by kernel_rfl, ?_⟩
                        have h0 : a.tmps.getD 115 undef = (.slice (some ⟨rg, 0, none⟩) 16 cg) := hK.2 ⟨15, .data⟩ (by simp) rfl _ rfl
                        have h1 : a.tmps.getD 118 undef = (.int .i64 (e1 : Nat)) := hK.2 ⟨18, .data⟩ (by simp) rfl _ rfl
                        refine tt_v (Instr.indexAt 107 (a.tmps.getD 115 undef) (a.tmps.getD 118 undef)) ((.pointer (some ⟨rg, e1, none⟩))) (by kernel_rfl) (by kernel_rfl) ?_ hC (slots_put _ _ _ (by rw [hsz]; exact of_decide_eq_true (by kernel_rfl))) (RV.refl _ _)
                        rw [h0, h1]
                        exact atLi rg 16 cg e1 (by have := HL.out; omega) wx
                      · intro a wx hC hsz hK
                        refine ⟨by kernel_rfl, ?_⟩
                        have h0 : a.tmps.getD 119 undef = (.pointer (some ⟨rg, e1, none⟩)) := hK.2 ⟨19, .data⟩ (by simp) rfl _ rfl
                        exact tt_load 3 (.tmp 119) ((.pointer (some ⟨rg, e1, none⟩))) ((.int .i64 (s1 : Nat))) rfl (by kernel_rfl) h0 (by rw [← HS1.out]; exact load_i64 _ _ _ _ (hC.row e1 (by have := HL.out; omega))) hC (slots_put _ _ _ (by rw [hsz]; exact of_decide_eq_true (by kernel_rfl))) (RV.refl _ _)
                      · intro a wx hC hsz hK
                        refine ⟨by kernel_rfl, ?_⟩
                        have h0 : a.tmps.getD 7 undef = (.pointer (some ⟨w.heap.size + 1, 0, none⟩)) := hK.1 7 (by kernel_rfl)
                        have h1 : a.tmps.getD 120 undef = (.int .i64 (s1 : Nat)) := hK.2 ⟨20, .data⟩ (by simp) rfl _ rfl
                        refine tt_v (Instr.indexAt 55 (a.tmps.getD 7 undef) (a.tmps.getD 120 undef)) ((.pointer (some ⟨w.heap.size + 1, s1, none⟩))) (by kernel_rfl) (by kernel_rfl) ?_ hC (slots_put _ _ _ (by rw [hsz]; exact of_decide_eq_true (by kernel_rfl))) (RV.refl _ _)
                        rw [h0, h1]
                        exact at16 _ _ (by have := HL.out; omega) wx
                      · intro a wx hC hsz hK
                        refine ⟨by kernel_rfl, ?_⟩
                        have h0 : a.tmps.getD 121 undef = (.pointer (some ⟨w.heap.size + 1, s1, none⟩)) := hK.2 ⟨21, .data⟩ (by simp) rfl _ rfl
                        exact tt_load 34 (.tmp 121) ((.pointer (some ⟨w.heap.size + 1, s1, none⟩))) ((.int .u64 X)) rfl (by kernel_rfl) h0 (load_u64 _ _ _ _ ((cell_row16 hC.g.r1 _ (by have := HL.out; omega)).trans (by rw [HX.out]))) hC (slots_put _ _ _ (by rw [hsz]; exact of_decide_eq_true (by kernel_rfl))) (RV.refl _ _)
                      · intro a wx hC hsz hK
                        refine ⟨by kernel_rfl, ?_⟩
                        have h0 : a.tmps.getD 15 undef = (.slice (some ⟨rg, 0, none⟩) 16 cg) := hK.1 15 (by kernel_rfl)
                        exact tt_val ((.slice (some ⟨rg, 0, none⟩) 16 cg)) (by kernel_rfl) (by rw [← h0]; kernel_rfl) hC (slots_put _ _ _ (by rw [hsz]; exact of_decide_eq_true (by kernel_rfl))) (RV.refl _ _)
                      · intro a wx hC hsz hK
                        refine ⟨by kernel_rfl, ?_⟩
                        have h0 : a.tmps.getD 17 undef = (.int .i64 (k : Nat)) := hK.1 17 (by kernel_rfl)
                        exact tt_val ((.int .i64 (k : Nat))) (by kernel_rfl) (by rw [← h0]; kernel_rfl) hC (slots_put _ _ _ (by rw [hsz]; exact of_decide_eq_true (by kernel_rfl))) (RV.refl _ _)
                      · intro a wx hC hsz hK
                        refine ⟨by kernel_rfl, ?_⟩
                        have h0 : a.tmps.getD 124 undef = (.int .i64 (k : Nat)) := hK.2 ⟨24, .data⟩ (by simp) rfl _ rfl
                        refine tt_v (binOp BinOp.mul 3 (.int .i64 (2 : Nat)) (a.tmps.getD 124 undef)) ((.int .i64 (kk : Nat))) (by kernel_rfl) (by kernel_rfl) ?_ hC (slots_put _ _ _ (by rw [hsz]; exact of_decide_eq_true (by kernel_rfl))) (RV.refl _ _)
                        rw [h0]
                        exact mul_i _ _ _ HK.out.2.1 (by have := HL.out; omega) wx
                      · intro a wx hC hsz hK
                        refine ⟨by kernel_rfl, ?_⟩
                        have h0 : a.tmps.getD 125 undef = (.int .i64 (kk : Nat)) := hK.2 ⟨25, .data⟩ (by simp) rfl _ rfl
                        refine tt_v (binOp BinOp.add 3 (.int .i64 (9 : Nat)) (a.tmps.getD 125 undef)) ((.int .i64 (e2 : Nat))) (by kernel_rfl) (by kernel_rfl) ?_ hC (slots_put _ _ _ (by rw [hsz]; exact of_decide_eq_true (by kernel_rfl))) (RV.refl _ _)
                        rw [h0]
                        exact add_i _ _ _ HK.out.2.2.2 (by have := HL.out; omega) wx
                      · intro a wx hC hsz hK
                        refine ⟨by kernel_rfl, ?_⟩
                        have h0 : a.tmps.getD 123 undef = (.slice (some ⟨rg, 0, none⟩) 16 cg) := hK.2 ⟨23, .data⟩ (by simp) rfl _ rfl
                        have h1 : a.tmps.getD 126 undef = (.int .i64 (e2 : Nat)) := hK.2 ⟨26, .data⟩ (by simp) rfl _ rfl
                        refine tt_v (Instr.indexAt 107 (a.tmps.getD 123 undef) (a.tmps.getD 126 undef)) ((.pointer (some ⟨rg, e2, none⟩))) (by kernel_rfl) (by kernel_rfl) ?_ hC (slots_put _ _ _ (by rw [hsz]; exact of_decide_eq_true (by kernel_rfl))) (RV.refl _ _)
                        rw [h0, h1]
                        exact atLi rg 16 cg e2 (by have := HL.out; omega) wx
                      · intro a wx hC hsz hK
                        refine ⟨by kernel_rfl, ?_⟩
                        have h0 : a.tmps.getD 127 undef = (.pointer (some ⟨rg, e2, none⟩)) := hK.2 ⟨27, .data⟩ (by simp) rfl _ rfl
                        exact tt_load 3 (.tmp 127) ((.pointer (some ⟨rg, e2, none⟩))) ((.int .i64 (s2 : Nat))) rfl (by kernel_rfl) h0 (by rw [← HS2.out]; exact load_i64 _ _ _ _ (hC.row e2 (by have := HL.out; omega))) hC (slots_put _ _ _ (by rw [hsz]; exact of_decide_eq_true (by kernel_rfl))) (RV.refl _ _)
                      · intro a wx hC hsz hK
                        refine ⟨by kernel_rfl, ?_⟩
                        have h0 : a.tmps.getD 7 undef = (.pointer (some ⟨w.heap.size + 1, 0, none⟩)) := hK.1 7 (by kernel_rfl)
                        have h1 : a.tmps.getD 128 undef = (.int .i64 (s2 : Nat)) := hK.2 ⟨28, .data⟩ (by simp) rfl _ rfl
                        refine tt_v (Instr.indexAt 55 (a.tmps.getD 7 undef) (a.tmps.getD 128 undef)) ((.pointer (some ⟨w.heap.size + 1, s2, none⟩))) (by kernel_rfl) (by kernel_rfl) ?_ hC (slots_put _ _ _ (by rw [hsz]; exact of_decide_eq_true (by kernel_rfl))) (RV.refl _ _)
                        rw [h0, h1]
                        exact at16 _ _ (by have := HL.out; omega) wx
                      · intro a wx hC hsz hK
                        refine ⟨by kernel_rfl, ?_⟩
                        have h0 : a.tmps.getD 129 undef = (.pointer (some ⟨w.heap.size + 1, s2, none⟩)) := hK.2 ⟨29, .data⟩ (by simp) rfl _ rfl
                        exact tt_load 34 (.tmp 129) ((.pointer (some ⟨w.heap.size + 1, s2, none⟩))) ((.int .u64 Y)) rfl (by kernel_rfl) h0 (load_u64 _ _ _ _ ((cell_row16 hC.g.r1 _ (by have := HL.out; omega)).trans (by rw [HY.out]))) hC (slots_put _ _ _ (by rw [hsz]; exact of_decide_eq_true (by kernel_rfl))) (RV.refl _ _)
                      · intro a wx hC hsz hK
                        refine ⟨by kernel_rfl, ?_⟩
                        have h0 : a.tmps.getD 100 undef = (.agg (ar .u64 16 v)) := hK.2 ⟨0, .data⟩ (by simp) rfl _ rfl
                        obtain ⟨g, h1, h2, h3⟩ := hK.2 ⟨14, .data⟩ (by simp) rfl _ rfl
                        have h4 : a.tmps.getD 122 undef = (.int .u64 X) := hK.2 ⟨22, .data⟩ (by simp) rfl _ rfl
                        have h5 : a.tmps.getD 130 undef = (.int .u64 Y) := hK.2 ⟨30, .data⟩ (by simp) rfl _ rfl
                        refine tt_call 70 #[a.tmps.getD 100 undef, a.tmps.getD 114 undef, a.tmps.getD 122 undef, a.tmps.getD 130 undef] (by kernel_rfl) (by kernel_rfl) ?_
                        rw [h0, h4, h5, show a.tmps.getD 114 undef = _ from h1]
                        exact (HMX.out g wx h3).mono fun e w' hh => ⟨_, hh.1, hC.below hh.2, (slots_put _ _ _ (by rw [hsz]; exact of_decide_eq_true (by kernel_rfl))), RV.of hh.2⟩
                      · intro a wx hC hsz hK
                        refine ⟨by kernel_rfl, ?_⟩
                        have h0 : a.tmps.getD 11 undef = (.pointer (some ⟨V, 0, none⟩)) := hK.1 11 (by kernel_rfl)
                        have h1 : a.tmps.getD 131 undef = (.agg (ar .u64 16 v')) := hK.2 ⟨31, .data⟩ (by simp) rfl _ rfl
                        exact tt_store (by kernel_rfl) rfl (run_st 55 (.tmp 11) (.tmp 131) _ _ rfl h0 h1 (store_16 hC.g.rV)) (hC.set v') trivial (RV.row _)
                    intro f1 wy hCy _
                    have HC := Lib.hid hCy
                    clear hCy H HMX HS1 HS2 HX HY HK
                    simp only [putAll, Act.put, List.setIfInBounds_toArray, List.set_cons_succ, List.set_cons_zero]
                    go_wp2_with fail
                    go_roundw
                    case rel => exact ⟨k + 1, by have := HL.out; omega, by go_num, by rw [HVV.out]; exact HC⟩
                    case measure => have := HL.out; simp [intOf]; omega
                  · obtain rfl : k = 4 := by omega
                    have hlt2 : ¬ ((4 : Nat) : Int) < 4 := by omega
                    go_wp2_with fail
                    go_roundw
                    case rel =>
                      refine ⟨n + 1, by have := HL0.out.1; omega, by go_num, Lib.hid ?_⟩
                      have e : vrn v0 m (n + 1) = mxe vd (ord m s) 4 := by
                        show rnd (vrn v0 m n) (ord m (sig (n % 10))) = _
                        rw [HSV.out.1, HSV.out.2, ← HVD.out, rnd_mxe]
                      rw [e]
                      exact H.out.g
                    case measure => have := HL0.out.1; simp [intOf]; omega
          · obtain rfl : n = N := by omega
            obtain ⟨u, hu⟩ : ∃ u, vrn v0 m n = u := ⟨_, rfl⟩
            rw [hu] at H
            have HU := Lib.hid hu
            clear hu
            have H8 := Lib.hid (show CG w (bfD h u 0) m t V pg u wr from by rw [show bfD h u 0 = h from by funext i; unfold bfD; rw [if_neg (by omega)]]; exact H.out)
            clear H hlt
            by_cases hc : n < r
            · have hlr : (n : Int) < r := by omega
              have hl6 : ¬ (n : Int) < 65536 := by omega
              clear hr1 hN2 hc
              go_wp2_with fail
              go_loopw [18] (fun i wr => ∃ j : Nat, j ≤ 8 ∧ i = .int .i64 j ∧ Hid (CG w (bfD h u j) m t V pg u wr)) (fun i _ => 8 - (intOf i).toNat)
              case atStart => exact ⟨0, by omega, rfl, H8⟩
              case round =>
                obtain ⟨j, hj, rfl, HJ2⟩ := hrel
                clear H8
                have hj0 : (0 : Int) ≤ j := by omega
                by_cases hjl : j < 8
                · have hjl' : (j : Int) < 8 := by omega
                  obtain ⟨z, hz⟩ : ∃ z : Nat, 8 + (j : Int) = (z : Int) := ⟨8 + j, by omega⟩
                  have hz0 : (0 : Int) ≤ z := by omega
                  have hz1 : (z : Int) < 16 := by omega
                  have hwz : IntKind.i64.wrap (z : Int) = (z : Int) := by rw [IntKind.wrap_i64]; omega
                  have hj16 : (j : Int) < 16 := by omega
                  have c0 : wr.cell? ⟨w.heap.size, j, none⟩ = some (.int .u64 (h j)) := ((cell_of_row wr _ j _ _ _ HJ2.out.r0).trans (ar_at _ _ _ _ hjl)).trans (by unfold bfD; rw [if_neg (by omega)])
                  have f0 := frozen_of_row wr _ j _ _ HJ2.out.r0
                  have c1 := cell_row16 HJ2.out.rV j (by omega)
                  have c2 := cell_row16 HJ2.out.rV z (by omega)
                  have HV := Lib.hid (show bits .xor .u64 (bits .xor .u64 (h j) (u j)) (u z) = bfi h u j from by rw [← bfi_ref, show 8 + j = z by omega])
                  have HS := Lib.hid (CG.hset HJ2.out j hjl (bfi h u j))
                  go_wp2_with fail
                  go_region
                  go_wp2
                  go_roundw
                  case rel =>
                    refine ⟨j + 1, by omega, by go_num, Lib.hid ?_⟩
                    rw [HV.out]
                    have e : updI (bfD h u j) j (bfi h u j) = bfD h u (j + 1) := funext fun i => bfD_next i
                    rw [← e]
                    exact HS.out.drew
                  case measure => simp [intOf]; omega
                · obtain rfl : j = 8 := by omega
                  have hjl' : ¬ ((8 : Nat) : Int) < 8 := by omega
                  have hfull : ar .u64 8 (bfD h u 8) = ar .u64 8 (bfi h u) := ar_congr fun i hi => by unfold bfD; rw [if_pos hi]
                  have h0 := HJ2.out.r0
                  rw [hfull] at h0
                  obtain ⟨ro, hro⟩ : ∃ ro, bfi h u = ro := ⟨_, rfl⟩
                  rw [hro] at h0
                  have H0x := Lib.hid (And.intro h0 (And.intro HJ2.out.r3 HJ2.out.old))
                  have HRO := Lib.hid hro
                  have HI : Hid ((Tryd.prog.info? 54).map (·.size) = some (ar .u64 8 ro).size) := Lib.hid (by rw [ar_size]; exact info8u)
                  clear h0 hro hfull HJ2
                  go_wp2_with (first | (refine wpList_load_row rfl 54 _ rfl w.heap.size rfl 54 (ar .u64 8 ro) (0, 0) _ (by exact H0x.out.1) Tryd.underlying54 rfl HI.out ?_) | (refine wpList_store_row rfl 54 _ _ rfl (w.heap.size + 1 + 1 + 1) (ar .u64 8 ro) rfl rfl 54 #[.int .u64 0, .int .u64 0, .int .u64 0, .int .u64 0, .int .u64 0, .int .u64 0, .int .u64 0, .int .u64 0] (by exact H0x.out.2.1) HI.out (by rw [ar_size]; rfl) (ar_one _ _ _) ?_))
                  (try simp only [Act.put, List.setIfInBounds_toArray, List.set_cons_succ, List.set_cons_zero])
                  refine bodyPost_ret (v := .agg (ar .u64 8 ro)) (results_cell_row (p := 10) rfl _ _ (w.heap.size + 1 + 1 + 1) 54 (ar .u64 8 ro) (0, 0) _ rfl (setRow_heap _ _ _ _ _ _ H0x.out.2.1) Tryd.underlying54 rfl HI.out) rfl ⟨?_, below_setRow H0x.out.2.2 (by omega) _⟩
                  rw [HV0.out, HU.out, HRO.out]
            · have hlr : ¬ (n : Int) < r := by omega
              clear hr1 hN2 hc
              go_wp2_with fail
              go_loopw [18] (fun i wr => ∃ j : Nat, j ≤ 8 ∧ i = .int .i64 j ∧ Hid (CG w (bfD h u j) m t V pg u wr)) (fun i _ => 8 - (intOf i).toNat)
              case atStart => exact ⟨0, by omega, rfl, H8⟩
              case round =>
                obtain ⟨j, hj, rfl, HJ2⟩ := hrel
                clear H8
                have hj0 : (0 : Int) ≤ j := by omega
                by_cases hjl : j < 8
                · have hjl' : (j : Int) < 8 := by omega
                  obtain ⟨z, hz⟩ : ∃ z : Nat, 8 + (j : Int) = (z : Int) := ⟨8 + j, by omega⟩
                  have hz0 : (0 : Int) ≤ z := by omega
                  have hz1 : (z : Int) < 16 := by omega
                  have hwz : IntKind.i64.wrap (z : Int) = (z : Int) := by rw [IntKind.wrap_i64]; omega
                  have hj16 : (j : Int) < 16 := by omega
                  have c0 : wr.cell? ⟨w.heap.size, j, none⟩ = some (.int .u64 (h j)) := ((cell_of_row wr _ j _ _ _ HJ2.out.r0).trans (ar_at _ _ _ _ hjl)).trans (by unfold bfD; rw [if_neg (by omega)])
                  have f0 := frozen_of_row wr _ j _ _ HJ2.out.r0
                  have c1 := cell_row16 HJ2.out.rV j (by omega)
                  have c2 := cell_row16 HJ2.out.rV z (by omega)
                  have HV := Lib.hid (show bits .xor .u64 (bits .xor .u64 (h j) (u j)) (u z) = bfi h u j from by rw [← bfi_ref, show 8 + j = z by omega])
                  have HS := Lib.hid (CG.hset HJ2.out j hjl (bfi h u j))
                  go_wp2_with fail
                  go_region
                  go_wp2
                  go_roundw
                  case rel =>
                    refine ⟨j + 1, by omega, by go_num, Lib.hid ?_⟩
                    rw [HV.out]
                    have e : updI (bfD h u j) j (bfi h u j) = bfD h u (j + 1) := funext fun i => bfD_next i
                    rw [← e]
                    exact HS.out.drew
                  case measure => simp [intOf]; omega
                · obtain rfl : j = 8 := by omega
                  have hjl' : ¬ ((8 : Nat) : Int) < 8 := by omega
                  have hfull : ar .u64 8 (bfD h u 8) = ar .u64 8 (bfi h u) := ar_congr fun i hi => by unfold bfD; rw [if_pos hi]
                  have h0 := HJ2.out.r0
                  rw [hfull] at h0
                  obtain ⟨ro, hro⟩ : ∃ ro, bfi h u = ro := ⟨_, rfl⟩
                  rw [hro] at h0
                  have H0x := Lib.hid (And.intro h0 (And.intro HJ2.out.r3 HJ2.out.old))
                  have HRO := Lib.hid hro
                  have HI : Hid ((Tryd.prog.info? 54).map (·.size) = some (ar .u64 8 ro).size) := Lib.hid (by rw [ar_size]; exact info8u)
                  clear h0 hro hfull HJ2
                  go_wp2_with (first | (refine wpList_load_row rfl 54 _ rfl w.heap.size rfl 54 (ar .u64 8 ro) (0, 0) _ (by exact H0x.out.1) Tryd.underlying54 rfl HI.out ?_) | (refine wpList_store_row rfl 54 _ _ rfl (w.heap.size + 1 + 1 + 1) (ar .u64 8 ro) rfl rfl 54 #[.int .u64 0, .int .u64 0, .int .u64 0, .int .u64 0, .int .u64 0, .int .u64 0, .int .u64 0, .int .u64 0] (by exact H0x.out.2.1) HI.out (by rw [ar_size]; rfl) (ar_one _ _ _) ?_))
                  (try simp only [Act.put, List.setIfInBounds_toArray, List.set_cons_succ, List.set_cons_zero])
                  refine bodyPost_ret (v := .agg (ar .u64 8 ro)) (results_cell_row (p := 10) rfl _ _ (w.heap.size + 1 + 1 + 1) 54 (ar .u64 8 ro) (0, 0) _ rfl (setRow_heap _ _ _ _ _ _ H0x.out.2.1) Tryd.underlying54 rfl HI.out) rfl ⟨?_, below_setRow H0x.out.2.2 (by omega) _⟩
                  rw [HV0.out, HU.out, HRO.out]
      | true =>
        have c14 : wz.cell? ⟨V, 14, none⟩ = some (.int .u64 (ivT 14)) := cell_row16 HS3.out.rV 14 (by omega)
        have f14 := frozen_of_row wz V 14 _ _ HS3.out.rV
        have H7 := Lib.hid (show CG w h m t V pg (bgn h t true) (wz.setCell ⟨V, 14, none⟩ (.int .u64 (bits .xor .u64 IntKind.u64.max (ivT 14)))) from HS3.out.set 14 (by omega) (bits .xor .u64 IntKind.u64.max (ivT 14)))
        clear HS3
        go_wp2_with fail
        clear h
        obtain ⟨wy, hwy⟩ : ∃ wy, wz.setCell ⟨V, 14, none⟩ (.int .u64 (bits .xor .u64 IntKind.u64.max (ivT 14))) = wy := ⟨_, rfl⟩
        rw [hwy] at H7 ⊢
        clear hwy c14 f14
        obtain ⟨v0, hv0⟩ : ∃ v0, bgn h t true = v0 := ⟨_, rfl⟩
        rw [hv0] at H7
        have HV0 := Lib.hid hv0
        clear hv0
        go_loopw [14] (fun i wr => ∃ n : Nat, n ≤ N ∧ i = .int .i64 n ∧ Hid (CG w h m t V pg (vrn v0 m n) wr)) (fun i _ => N - (intOf i).toNat)
        case atStart => exact ⟨0, by omega, rfl, H7⟩
        case round =>
          obtain ⟨n, hn, rfl, H⟩ := hrel
          clear H7
          have hn0 : (0 : Int) ≤ n := by omega
          have hr1 := HN.out.2
          have hN2 := HN.out.1
          have hcv : IntKind.i64.wrap (r : Int) = (r : Int) := by rw [IntKind.wrap_i64]; omega
          by_cases hlt : n < N
          · have hlr : (n : Int) < r := by omega
            have hl6 : (n : Int) < 65536 := by omega
            have HL0 := Lib.hid (And.intro hlt (show n < 65536 by omega))
            clear hr1 hN2 hlt
            go_wp2_with fail
            refine (brow_any n HL0.out.2 _).mono ?_
            rintro e w5 ⟨rg, cg, rfl, hown, hb⟩
            obtain ⟨s, hs⟩ : ∃ s, sig (n % 10) = s := ⟨_, rfl⟩
            obtain ⟨vv, hvv⟩ : ∃ vv, vrn v0 m n = vv := ⟨_, rfl⟩
            have HSV := Lib.hid (And.intro hs hvv)
            have HSS := Lib.hid (show ∀ j, j < 16 → s j < 16 from fun j hj => by rw [← hs]; exact sig_lt _ _ (by omega) hj)
            rw [hs] at hown
            rw [hvv] at H
            have HJ3 := Lib.hid (show CS w h m t V pg rg s (mxc vv (ord m s) 0) w5 from ⟨H.out.below hb, fun j hj => (hown.cellAt j (by omega)).trans (pi_at s 16 j hj), by have := hown.lt rg rfl; have := H.out.high; omega, (hown.lt rg rfl).2⟩)
            clear hown hb hs hvv H
            go_wp2_with fail
            go_loopw [16] (fun i wr => ∃ k : Nat, k ≤ 4 ∧ i = .int .i64 k ∧ Hid (CS w h m t V pg rg s (mxc vv (ord m s) k) wr)) (fun i _ => 4 - (intOf i).toNat)
            case atStart => exact ⟨0, by omega, rfl, HJ3⟩
            case round =>
              obtain ⟨k, hk, rfl, H⟩ := hrel
              clear HJ3
              have hk0 : (0 : Int) ≤ k := by omega
              by_cases hlt : k < 4
              · have hlt' : (k : Int) < 4 := by omega
                obtain ⟨v, hv⟩ : ∃ v, mxc vv (ord m s) k = v := ⟨_, rfl⟩
                obtain ⟨v', hv'⟩ : ∃ v', mxc vv (ord m s) (k + 1) = v' := ⟨_, rfl⟩
                rw [hv] at H
                obtain ⟨b, hb⟩ : ∃ b, 4 + k = b := ⟨_, rfl⟩
                obtain ⟨c, hc⟩ : ∃ c, 8 + k = c := ⟨_, rfl⟩
                obtain ⟨d, hd⟩ : ∃ d, 12 + k = d := ⟨_, rfl⟩
                obtain ⟨kk, hkk⟩ : ∃ kk, 2 * k = kk := ⟨_, rfl⟩
                obtain ⟨e2, he2⟩ : ∃ e2, kk + 1 = e2 := ⟨_, rfl⟩
                obtain ⟨s1, hs1⟩ : ∃ s1, s kk = s1 := ⟨_, rfl⟩
                obtain ⟨s2, hs2⟩ : ∃ s2, s e2 = s2 := ⟨_, rfl⟩
                obtain ⟨X, hX⟩ : ∃ X, m s1 = X := ⟨_, rfl⟩
                obtain ⟨Y, hY⟩ : ∃ Y, m s2 = Y := ⟨_, rfl⟩
                have HMX := Lib.hid (show ∀ g wx, L4 wx g k b c d → Calls Tryd.prog 70 #[.agg (ar .u64 16 v), .slice (some ⟨g, 0, none⟩) 4 4, .int .u64 X, .int .u64 Y] wx (fun e w' => e = .returned (.agg (ar .u64 16 v')) ∧ Below wx.heap.size wx w') from fun g wx h4 => by
                  have e1 : mxv v k b c d X Y = v' := by
                    rw [← hv', ← hv, ← hb, ← hc, ← hd, ← hX, ← hY, ← hs1, ← hs2, ← he2, ← hkk]
                    rfl
                  rw [← e1]
                  exact brmix_any g k b c d v X Y (by omega) (by omega) (by omega) (by omega) (by omega) (by omega) (by omega) (by omega) (by omega) (by omega) wx h4)
                have hl1 := HSS.out kk (by omega)
                have hl2 := HSS.out e2 (by omega)
                rw [hs1] at hl1
                rw [hs2] at hl2
                have HK := Lib.hid (And.intro (And.intro hb (And.intro hc hd)) (And.intro hkk (And.intro True.intro he2)))
                have HL := Lib.hid (show k < 4 ∧ b < 16 ∧ c < 16 ∧ d < 16 ∧ kk < 16 ∧ e2 < 16 ∧ s1 < 16 ∧ s2 < 16 from ⟨hlt, by omega, by omega, by omega, by omega, by omega, hl1, hl2⟩)
                have HS1 := Lib.hid hs1
                have HS2 := Lib.hid hs2
                have HX := Lib.hid hX
                have HY := Lib.hid hY
                have HVV := Lib.hid hv'
                clear hl1 hl2 hs1 hs2 hX hY hv hv' hb hc hd hkk he2
                go_wp2_with fail
                refine region_tieL (CS w h m t V pg rg s v) (CS w h m t V pg rg s v') 25 (fun i => match i with | 0 => 24 | 1 => 8 | 2 => 3 | 3 => 8 | 4 => 5 | 5 => 8 | 6 => 7 | 7 => 8 | 8 => 24 | 9 => 12 | 10 => 11 | 11 => 12 | 12 => 13 | 13 => 14 | 14 => 15 | 15 => 24 | 16 => 20 | 17 => 18 | 18 => 19 | 19 => 20 | 20 => 21 | 21 => 22 | 22 => 23 | 23 => 24 | 24 => 25 | _ => 0) (fun i s wx => match i with | 0 => s 71 = (.agg (ar .u64 16 v)) | 1 => s 72 = (.int .i64 (k : Nat)) | 2 => s 73 = (.int .i64 (k : Nat)) | 3 => s 74 = (.int .i64 (b : Nat)) | 4 => s 75 = (.int .i64 (k : Nat)) | 5 => s 76 = (.int .i64 (c : Nat)) | 6 => s 77 = (.int .i64 (k : Nat)) | 7 => s 78 = (.int .i64 (d : Nat)) | 8 => ∃ g, s 79 = .slice (some ⟨g, 0, none⟩) 4 4 ∧ V < g ∧ L4 wx g k b c d | 9 => s 80 = (.slice (some ⟨rg, 0, none⟩) 16 cg) | 10 => s 81 = (.int .i64 (k : Nat)) | 11 => s 82 = (.int .i64 (kk : Nat)) | 12 => s 83 = (.pointer (some ⟨rg, kk, none⟩)) | 13 => s 84 = (.int .i64 (s1 : Nat)) | 14 => s 85 = (.pointer (some ⟨w.heap.size + 1, s1, none⟩)) | 15 => s 86 = (.int .u64 X) | 16 => s 87 = (.slice (some ⟨rg, 0, none⟩) 16 cg) | 17 => s 88 = (.int .i64 (k : Nat)) | 18 => s 89 = (.int .i64 (kk : Nat)) | 19 => s 90 = (.int .i64 (e2 : Nat)) | 20 => s 91 = (.pointer (some ⟨rg, e2, none⟩)) | 21 => s 92 = (.int .i64 (s2 : Nat)) | 22 => s 93 = (.pointer (some ⟨w.heap.size + 1, s2, none⟩)) | 23 => s 94 = (.int .u64 Y) | 24 => s 95 = .agg (ar .u64 16 v') | 25 => True | _ => True) (RV V) (fun i => match i with | 0 => [71] | 1 => [72] | 2 => [73] | 3 => [74] | 4 => [75] | 5 => [76] | 6 => [77] | 7 => [78] | 8 => [79] | 9 => [80] | 10 => [81] | 11 => [82] | 12 => [83] | 13 => [84] | 14 => [85] | 15 => [86] | 16 => [87] | 17 => [88] | 18 => [89] | 19 => [90] | 20 => [91] | 21 => [92] | 22 => [93] | 23 => [94] | 24 => [95] | 25 => [] | _ => []) (fun i => i) (by kernel_rfl) (by kernel_rfl) (by kernel_rfl) H.out.drew ?_ ?_ ?_ ?_
                · intro i s s' wx he hp
                  match i, he, hp with
                  | 0, he, hp => exact (he 71 (by simp)).symm.trans hp
                  | 1, he, hp => exact (he 72 (by simp)).symm.trans hp
                  | 2, he, hp => exact (he 73 (by simp)).symm.trans hp
                  | 3, he, hp => exact (he 74 (by simp)).symm.trans hp
                  | 4, he, hp => exact (he 75 (by simp)).symm.trans hp
                  | 5, he, hp => exact (he 76 (by simp)).symm.trans hp
                  | 6, he, hp => exact (he 77 (by simp)).symm.trans hp
                  | 7, he, hp => exact (he 78 (by simp)).symm.trans hp
                  | 8, he, hp => obtain ⟨g, h1, h2, h3⟩ := hp; exact ⟨g, (he 79 (by simp)).symm.trans h1, h2, h3⟩
                  | 9, he, hp => exact (he 80 (by simp)).symm.trans hp
                  | 10, he, hp => exact (he 81 (by simp)).symm.trans hp
                  | 11, he, hp => exact (he 82 (by simp)).symm.trans hp
                  | 12, he, hp => exact (he 83 (by simp)).symm.trans hp
                  | 13, he, hp => exact (he 84 (by simp)).symm.trans hp
                  | 14, he, hp => exact (he 85 (by simp)).symm.trans hp
                  | 15, he, hp => exact (he 86 (by simp)).symm.trans hp
                  | 16, he, hp => exact (he 87 (by simp)).symm.trans hp
                  | 17, he, hp => exact (he 88 (by simp)).symm.trans hp
                  | 18, he, hp => exact (he 89 (by simp)).symm.trans hp
                  | 19, he, hp => exact (he 90 (by simp)).symm.trans hp
                  | 20, he, hp => exact (he 91 (by simp)).symm.trans hp
                  | 21, he, hp => exact (he 92 (by simp)).symm.trans hp
                  | 22, he, hp => exact (he 93 (by simp)).symm.trans hp
                  | 23, he, hp => exact (he 94 (by simp)).symm.trans hp
                  | 24, he, hp => exact (he 95 (by simp)).symm.trans hp
                  | 25, he, hp => trivial
                  | _ + 26, _, _ => trivial
                · intro i s wa wb hR hp
                  match i, hp with
                  | 0, hp => exact hp
                  | 1, hp => exact hp
                  | 2, hp => exact hp
                  | 3, hp => exact hp
                  | 4, hp => exact hp
                  | 5, hp => exact hp
                  | 6, hp => exact hp
                  | 7, hp => exact hp
                  | 8, hp => obtain ⟨g, h1, h2, h3⟩ := hp; exact ⟨g, h1, h2, h3.rv h2 hR⟩
                  | 9, hp => exact hp
                  | 10, hp => exact hp
                  | 11, hp => exact hp
                  | 12, hp => exact hp
                  | 13, hp => exact hp
                  | 14, hp => exact hp
                  | 15, hp => exact hp
                  | 16, hp => exact hp
                  | 17, hp => exact hp
                  | 18, hp => exact hp
                  | 19, hp => exact hp
                  | 20, hp => exact hp
                  | 21, hp => exact hp
                  | 22, hp => exact hp
                  | 23, hp => exact hp
                  | 24, hp => exact hp
                  | 25, hp => trivial
                  | _ + 26, _ => trivial
                · refine ⟨?_, ?_, ?_, ?_, ?_, ?_, ?_, ?_, ?_, ?_, ?_, ?_, ?_, ?_, ?_, ?_, ?_, ?_, ?_, ?_, ?_, ?_, ?_, ?_, ?_, ?_, trivial⟩
                  · intro a wx hC hsz hK
                    refine ⟨by kernel_rfl, ?_⟩
                    have h0 : a.tmps.getD 11 undef = (.pointer (some ⟨V, 0, none⟩)) := hK.1 11 (by kernel_rfl)
                    exact tt_load 55 (.tmp 11) ((.pointer (some ⟨V, 0, none⟩))) ((.agg (ar .u64 16 v))) rfl (by kernel_rfl) h0 (load_16u hC.g.rV) hC (slots_put _ _ _ (by rw [hsz]; exact of_decide_eq_true (by kernel_rfl))) (RV.refl _ _)
                  · intro a wx hC hsz hK
                    refine ⟨by kernel_rfl, ?_⟩
                    have h0 : a.tmps.getD 16 undef = (.int .i64 (k : Nat)) := hK.1 16 (by kernel_rfl)
                    exact tt_val ((.int .i64 (k : Nat))) (by kernel_rfl) (by rw [← h0]; kernel_rfl) hC (slots_put _ _ _ (by rw [hsz]; exact of_decide_eq_true (by kernel_rfl))) (RV.refl _ _)
                  · intro a wx hC hsz hK
                    refine ⟨by kernel_rfl, ?_⟩
                    have h0 : a.tmps.getD 16 undef = (.int .i64 (k : Nat)) := hK.1 16 (by kernel_rfl)
                    exact tt_val ((.int .i64 (k : Nat))) (by kernel_rfl) (by rw [← h0]; kernel_rfl) hC (slots_put _ _ _ (by rw [hsz]; exact of_decide_eq_true (by kernel_rfl))) (RV.refl _ _)
                  · intro a wx hC hsz hK
                    refine ⟨by kernel_rfl, ?_⟩
                    have h0 : a.tmps.getD 73 undef = (.int .i64 (k : Nat)) := hK.2 ⟨2, .data⟩ (by simp) rfl _ rfl
                    refine tt_v (binOp BinOp.add 3 (.int .i64 (4 : Nat)) (a.tmps.getD 73 undef)) ((.int .i64 (b : Nat))) (by kernel_rfl) (by kernel_rfl) ?_ hC (slots_put _ _ _ (by rw [hsz]; exact of_decide_eq_true (by kernel_rfl))) (RV.refl _ _)
                    rw [h0]
                    exact add_i _ _ _ HK.out.1.1 (by have := HL.out; omega) wx
                  · intro a wx hC hsz hK
                    refine ⟨by kernel_rfl, ?_⟩
                    have h0 : a.tmps.getD 16 undef = (.int .i64 (k : Nat)) := hK.1 16 (by kernel_rfl)
                    exact tt_val ((.int .i64 (k : Nat))) (by kernel_rfl) (by rw [← h0]; kernel_rfl) hC (slots_put _ _ _ (by rw [hsz]; exact of_decide_eq_true (by kernel_rfl))) (RV.refl _ _)
                  · intro a wx hC hsz hK
                    refine ⟨by kernel_rfl, ?_⟩
                    have h0 : a.tmps.getD 75 undef = (.int .i64 (k : Nat)) := hK.2 ⟨4, .data⟩ (by simp) rfl _ rfl
                    refine tt_v (binOp BinOp.add 3 (.int .i64 (8 : Nat)) (a.tmps.getD 75 undef)) ((.int .i64 (c : Nat))) (by kernel_rfl) (by kernel_rfl) ?_ hC (slots_put _ _ _ (by rw [hsz]; exact of_decide_eq_true (by kernel_rfl))) (RV.refl _ _)
                    rw [h0]
                    exact add_i _ _ _ HK.out.1.2.1 (by have := HL.out; omega) wx
                  · intro a wx hC hsz hK
                    refine ⟨by kernel_rfl, ?_⟩
                    have h0 : a.tmps.getD 16 undef = (.int .i64 (k : Nat)) := hK.1 16 (by kernel_rfl)
                    exact tt_val ((.int .i64 (k : Nat))) (by kernel_rfl) (by rw [← h0]; kernel_rfl) hC (slots_put _ _ _ (by rw [hsz]; exact of_decide_eq_true (by kernel_rfl))) (RV.refl _ _)
                  · intro a wx hC hsz hK
                    refine ⟨by kernel_rfl, ?_⟩
                    have h0 : a.tmps.getD 77 undef = (.int .i64 (k : Nat)) := hK.2 ⟨6, .data⟩ (by simp) rfl _ rfl
                    refine tt_v (binOp BinOp.add 3 (.int .i64 (12 : Nat)) (a.tmps.getD 77 undef)) ((.int .i64 (d : Nat))) (by kernel_rfl) (by kernel_rfl) ?_ hC (slots_put _ _ _ (by rw [hsz]; exact of_decide_eq_true (by kernel_rfl))) (RV.refl _ _)
                    rw [h0]
                    exact add_i _ _ _ HK.out.1.2.2 (by have := HL.out; omega) wx
                  · intro a wx hC hsz hK
                    refine ⟨by kernel_rfl, ?_⟩
                    have h0 : a.tmps.getD 72 undef = (.int .i64 (k : Nat)) := hK.2 ⟨1, .data⟩ (by simp) rfl _ rfl
                    have h1 : a.tmps.getD 74 undef = (.int .i64 (b : Nat)) := hK.2 ⟨3, .data⟩ (by simp) rfl _ rfl
                    have h2 : a.tmps.getD 76 undef = (.int .i64 (c : Nat)) := hK.2 ⟨5, .data⟩ (by simp) rfl _ rfl
                    have h3 : a.tmps.getD 78 undef = (.int .i64 (d : Nat)) := hK.2 ⟨7, .data⟩ (by simp) rfl _ rfl
                    refine tt_v (bsl (a.tmps.getD 72 undef) (a.tmps.getD 74 undef) (a.tmps.getD 76 undef) (a.tmps.getD 78 undef)) (.slice (some ⟨wx.heap.size, 0, none⟩) 4 4) (by kernel_rfl) (by kernel_rfl) ?_ (hC.below ((Below.refl _ _).alloc (Nat.le_refl _) (.cells #[.int .i64 (k : Nat), .int .i64 (b : Nat), .int .i64 (c : Nat), .int .i64 (d : Nat)] 3))) ⟨_, (slots_put _ _ _ (by rw [hsz]; exact of_decide_eq_true (by kernel_rfl))), hC.g.high, L4.new _ _ _ _ _⟩ (RV.of ((Below.refl _ _).alloc (Nat.le_refl _) _))
                    rw [h0, h1, h2, h3]
                    exact run_bsl k b c d wx
                  · intro a wx hC hsz hK
                    refine ⟨by kernel_rfl, ?_⟩
                    have h0 : a.tmps.getD 15 undef = (.slice (some ⟨rg, 0, none⟩) 16 cg) := hK.1 15 (by kernel_rfl)
                    exact tt_val ((.slice (some ⟨rg, 0, none⟩) 16 cg)) (by kernel_rfl) (by rw [← h0]; kernel_rfl) hC (slots_put _ _ _ (by rw [hsz]; exact of_decide_eq_true (by kernel_rfl))) (RV.refl _ _)
                  · intro a wx hC hsz hK
                    refine ⟨by kernel_rfl, ?_⟩
                    have h0 : a.tmps.getD 16 undef = (.int .i64 (k : Nat)) := hK.1 16 (by kernel_rfl)
                    exact tt_val ((.int .i64 (k : Nat))) (by kernel_rfl) (by rw [← h0]; kernel_rfl) hC (slots_put _ _ _ (by rw [hsz]; exact of_decide_eq_true (by kernel_rfl))) (RV.refl _ _)
                  · intro a wx hC hsz hK
                    refine ⟨by kernel_rfl, ?_⟩
                    have h0 : a.tmps.getD 81 undef = (.int .i64 (k : Nat)) := hK.2 ⟨10, .data⟩ (by simp) rfl _ rfl
                    refine tt_v (binOp BinOp.mul 3 (.int .i64 (2 : Nat)) (a.tmps.getD 81 undef)) ((.int .i64 (kk : Nat))) (by kernel_rfl) (by kernel_rfl) ?_ hC (slots_put _ _ _ (by rw [hsz]; exact of_decide_eq_true (by kernel_rfl))) (RV.refl _ _)
                    rw [h0]
                    exact mul_i _ _ _ HK.out.2.1 (by have := HL.out; omega) wx
                  · intro a wx hC hsz hK
                    refine ⟨by kernel_rfl, ?_⟩
                    have h0 : a.tmps.getD 80 undef = (.slice (some ⟨rg, 0, none⟩) 16 cg) := hK.2 ⟨9, .data⟩ (by simp) rfl _ rfl
                    have h1 : a.tmps.getD 82 undef = (.int .i64 (kk : Nat)) := hK.2 ⟨11, .data⟩ (by simp) rfl _ rfl
                    refine tt_v (Instr.indexAt 107 (a.tmps.getD 80 undef) (a.tmps.getD 82 undef)) ((.pointer (some ⟨rg, kk, none⟩))) (by kernel_rfl) (by kernel_rfl) ?_ hC (slots_put _ _ _ (by rw [hsz]; exact of_decide_eq_true (by kernel_rfl))) (RV.refl _ _)
                    rw [h0, h1]
                    exact atLi rg 16 cg kk (by have := HL.out; omega) wx
                  · intro a wx hC hsz hK
                    refine ⟨by kernel_rfl, ?_⟩
                    have h0 : a.tmps.getD 83 undef = (.pointer (some ⟨rg, kk, none⟩)) := hK.2 ⟨12, .data⟩ (by simp) rfl _ rfl
                    exact tt_load 3 (.tmp 83) ((.pointer (some ⟨rg, kk, none⟩))) ((.int .i64 (s1 : Nat))) rfl (by kernel_rfl) h0 (by rw [← HS1.out]; exact load_i64 _ _ _ _ (hC.row kk (by have := HL.out; omega))) hC (slots_put _ _ _ (by rw [hsz]; exact of_decide_eq_true (by kernel_rfl))) (RV.refl _ _)
                  · intro a wx hC hsz hK
                    refine ⟨by kernel_rfl, ?_⟩
                    have h0 : a.tmps.getD 7 undef = (.pointer (some ⟨w.heap.size + 1, 0, none⟩)) := hK.1 7 (by kernel_rfl)
                    have h1 : a.tmps.getD 84 undef = (.int .i64 (s1 : Nat)) := hK.2 ⟨13, .data⟩ (by simp) rfl _ rfl
                    refine tt_v (Instr.indexAt 55 (a.tmps.getD 7 undef) (a.tmps.getD 84 undef)) ((.pointer (some ⟨w.heap.size + 1, s1, none⟩))) (by kernel_rfl) (by kernel_rfl) ?_ hC (slots_put _ _ _ (by rw [hsz]; exact of_decide_eq_true (by kernel_rfl))) (RV.refl _ _)
                    rw [h0, h1]
                    exact at16 _ _ (by have := HL.out; omega) wx
                  · intro a wx hC hsz hK
                    refine ⟨by kernel_rfl, ?_⟩
                    have h0 : a.tmps.getD 85 undef = (.pointer (some ⟨w.heap.size + 1, s1, none⟩)) := hK.2 ⟨14, .data⟩ (by simp) rfl _ rfl
                    exact tt_load 34 (.tmp 85) ((.pointer (some ⟨w.heap.size + 1, s1, none⟩))) ((.int .u64 X)) rfl (by kernel_rfl) h0 (load_u64 _ _ _ _ ((cell_row16 hC.g.r1 _ (by have := HL.out; omega)).trans (by rw [HX.out]))) hC (slots_put _ _ _ (by rw [hsz]; exact of_decide_eq_true (by kernel_rfl))) (RV.refl _ _)
                  · intro a wx hC hsz hK
                    refine ⟨by kernel_rfl, ?_⟩
                    have h0 : a.tmps.getD 15 undef = (.slice (some ⟨rg, 0, none⟩) 16 cg) := hK.1 15 (by kernel_rfl)
                    exact tt_val ((.slice (some ⟨rg, 0, none⟩) 16 cg)) (by kernel_rfl) (by rw [← h0]; kernel_rfl) hC (slots_put _ _ _ (by rw [hsz]; exact of_decide_eq_true (by kernel_rfl))) (RV.refl _ _)
                  · intro a wx hC hsz hK
                    refine ⟨by kernel_rfl, ?_⟩
                    have h0 : a.tmps.getD 16 undef = (.int .i64 (k : Nat)) := hK.1 16 (by kernel_rfl)
                    exact tt_val ((.int .i64 (k : Nat))) (by kernel_rfl) (by rw [← h0]; kernel_rfl) hC (slots_put _ _ _ (by rw [hsz]; exact of_decide_eq_true (by kernel_rfl))) (RV.refl _ _)
                  · intro a wx hC hsz hK
                    refine ⟨by kernel_rfl, ?_⟩
                    have h0 : a.tmps.getD 88 undef = (.int .i64 (k : Nat)) := hK.2 ⟨17, .data⟩ (by simp) rfl _ rfl
                    refine tt_v (binOp BinOp.mul 3 (.int .i64 (2 : Nat)) (a.tmps.getD 88 undef)) ((.int .i64 (kk : Nat))) (by kernel_rfl) (by kernel_rfl) ?_ hC (slots_put _ _ _ (by rw [hsz]; exact of_decide_eq_true (by kernel_rfl))) (RV.refl _ _)
                    rw [h0]
                    exact mul_i _ _ _ HK.out.2.1 (by have := HL.out; omega) wx
                  · intro a wx hC hsz hK
                    refine ⟨by kernel_rfl, ?_⟩
                    have h0 : a.tmps.getD 89 undef = (.int .i64 (kk : Nat)) := hK.2 ⟨18, .data⟩ (by simp) rfl _ rfl
                    refine tt_v (binOp BinOp.add 3 (a.tmps.getD 89 undef) (.int .i64 (1 : Nat))) ((.int .i64 (e2 : Nat))) (by kernel_rfl) (by kernel_rfl) ?_ hC (slots_put _ _ _ (by rw [hsz]; exact of_decide_eq_true (by kernel_rfl))) (RV.refl _ _)
                    rw [h0]
                    exact add_i _ _ _ HK.out.2.2.2 (by have := HL.out; omega) wx
                  · intro a wx hC hsz hK
                    refine ⟨by kernel_rfl, ?_⟩
                    have h0 : a.tmps.getD 87 undef = (.slice (some ⟨rg, 0, none⟩) 16 cg) := hK.2 ⟨16, .data⟩ (by simp) rfl _ rfl
                    have h1 : a.tmps.getD 90 undef = (.int .i64 (e2 : Nat)) := hK.2 ⟨19, .data⟩ (by simp) rfl _ rfl
                    refine tt_v (Instr.indexAt 107 (a.tmps.getD 87 undef) (a.tmps.getD 90 undef)) ((.pointer (some ⟨rg, e2, none⟩))) (by kernel_rfl) (by kernel_rfl) ?_ hC (slots_put _ _ _ (by rw [hsz]; exact of_decide_eq_true (by kernel_rfl))) (RV.refl _ _)
                    rw [h0, h1]
                    exact atLi rg 16 cg e2 (by have := HL.out; omega) wx
                  · intro a wx hC hsz hK
                    refine ⟨by kernel_rfl, ?_⟩
                    have h0 : a.tmps.getD 91 undef = (.pointer (some ⟨rg, e2, none⟩)) := hK.2 ⟨20, .data⟩ (by simp) rfl _ rfl
                    exact tt_load 3 (.tmp 91) ((.pointer (some ⟨rg, e2, none⟩))) ((.int .i64 (s2 : Nat))) rfl (by kernel_rfl) h0 (by rw [← HS2.out]; exact load_i64 _ _ _ _ (hC.row e2 (by have := HL.out; omega))) hC (slots_put _ _ _ (by rw [hsz]; exact of_decide_eq_true (by kernel_rfl))) (RV.refl _ _)
                  · intro a wx hC hsz hK
                    refine ⟨by kernel_rfl, ?_⟩
                    have h0 : a.tmps.getD 7 undef = (.pointer (some ⟨w.heap.size + 1, 0, none⟩)) := hK.1 7 (by kernel_rfl)
                    have h1 : a.tmps.getD 92 undef = (.int .i64 (s2 : Nat)) := hK.2 ⟨21, .data⟩ (by simp) rfl _ rfl
                    refine tt_v (Instr.indexAt 55 (a.tmps.getD 7 undef) (a.tmps.getD 92 undef)) ((.pointer (some ⟨w.heap.size + 1, s2, none⟩))) (by kernel_rfl) (by kernel_rfl) ?_ hC (slots_put _ _ _ (by rw [hsz]; exact of_decide_eq_true (by kernel_rfl))) (RV.refl _ _)
                    rw [h0, h1]
                    exact at16 _ _ (by have := HL.out; omega) wx
                  · intro a wx hC hsz hK
                    refine ⟨by kernel_rfl, ?_⟩
                    have h0 : a.tmps.getD 93 undef = (.pointer (some ⟨w.heap.size + 1, s2, none⟩)) := hK.2 ⟨22, .data⟩ (by simp) rfl _ rfl
                    exact tt_load 34 (.tmp 93) ((.pointer (some ⟨w.heap.size + 1, s2, none⟩))) ((.int .u64 Y)) rfl (by kernel_rfl) h0 (load_u64 _ _ _ _ ((cell_row16 hC.g.r1 _ (by have := HL.out; omega)).trans (by rw [HY.out]))) hC (slots_put _ _ _ (by rw [hsz]; exact of_decide_eq_true (by kernel_rfl))) (RV.refl _ _)
                  · intro a wx hC hsz hK
                    refine ⟨by kernel_rfl, ?_⟩
                    have h0 : a.tmps.getD 71 undef = (.agg (ar .u64 16 v)) := hK.2 ⟨0, .data⟩ (by simp) rfl _ rfl
                    obtain ⟨g, h1, h2, h3⟩ := hK.2 ⟨8, .data⟩ (by simp) rfl _ rfl
                    have h4 : a.tmps.getD 86 undef = (.int .u64 X) := hK.2 ⟨15, .data⟩ (by simp) rfl _ rfl
                    have h5 : a.tmps.getD 94 undef = (.int .u64 Y) := hK.2 ⟨23, .data⟩ (by simp) rfl _ rfl
                    refine tt_call 70 #[a.tmps.getD 71 undef, a.tmps.getD 79 undef, a.tmps.getD 86 undef, a.tmps.getD 94 undef] (by kernel_rfl) (by kernel_rfl) ?_
                    rw [h0, h4, h5, show a.tmps.getD 79 undef = _ from h1]
                    exact (HMX.out g wx h3).mono fun e w' hh => ⟨_, hh.1, hC.below hh.2, (slots_put _ _ _ (by rw [hsz]; exact of_decide_eq_true (by kernel_rfl))), RV.of hh.2⟩
                  · intro a wx hC hsz hK
                    refine ⟨by kernel_rfl, ?_⟩
                    have h0 : a.tmps.getD 11 undef = (.pointer (some ⟨V, 0, none⟩)) := hK.1 11 (by kernel_rfl)
                    have h1 : a.tmps.getD 95 undef = (.agg (ar .u64 16 v')) := hK.2 ⟨24, .data⟩ (by simp) rfl _ rfl
                    exact tt_store (by kernel_rfl) rfl (run_st 55 (.tmp 11) (.tmp 95) _ _ rfl h0 h1 (store_16 hC.g.rV)) (hC.set v') trivial (RV.row _)
                intro f1 wy hCy _
                have HC := Lib.hid hCy
                clear hCy H HMX HS1 HS2 HX HY HK
                simp only [putAll, Act.put, List.setIfInBounds_toArray, List.set_cons_succ, List.set_cons_zero]
                go_wp2_with fail
                go_roundw
                case rel => exact ⟨k + 1, by have := HL.out; omega, by go_num, by rw [HVV.out]; exact HC⟩
                case measure => have := HL.out; simp [intOf]; omega
              · obtain rfl : k = 4 := by omega
                have hlt' : ¬ ((4 : Nat) : Int) < 4 := by omega
                have H4 := Lib.hid (show CS w h m t V pg rg s (mxe (mxc vv (ord m s) 4) (ord m s) 0) wr from H.out)
                clear H hlt hk
                obtain ⟨vd, hvd⟩ : ∃ vd, mxc vv (ord m s) 4 = vd := ⟨_, rfl⟩
                rw [hvd] at H4
                have HVD := Lib.hid hvd
                clear hvd
                go_wp2_with fail
                go_loopw [17] (fun i wr => ∃ k : Nat, k ≤ 4 ∧ i = .int .i64 k ∧ Hid (CS w h m t V pg rg s (mxe vd (ord m s) k) wr)) (fun i _ => 4 - (intOf i).toNat)
                case atStart => exact ⟨0, by omega, rfl, H4⟩
                case round =>
                  obtain ⟨k, hk, rfl, H⟩ := hrel
                  clear H4
                  have hk0 : (0 : Int) ≤ k := by omega
                  by_cases hlt : k < 4
                  · have hlt2 : (k : Int) < 4 := by omega
                    obtain ⟨v, hv⟩ : ∃ v, mxe vd (ord m s) k = v := ⟨_, rfl⟩
                    obtain ⟨v', hv'⟩ : ∃ v', mxe vd (ord m s) (k + 1) = v' := ⟨_, rfl⟩
                    rw [hv] at H
                    obtain ⟨k1, hk1⟩ : ∃ k1, k + 1 = k1 := ⟨_, rfl⟩
                    obtain ⟨k2, hk2⟩ : ∃ k2, k + 2 = k2 := ⟨_, rfl⟩
                    obtain ⟨k3, hk3⟩ : ∃ k3, k + 3 = k3 := ⟨_, rfl⟩
                    obtain ⟨q1, hq1⟩ : ∃ q1, k1 % 4 = q1 := ⟨_, rfl⟩
                    obtain ⟨q2, hq2⟩ : ∃ q2, k2 % 4 = q2 := ⟨_, rfl⟩
                    obtain ⟨q3, hq3⟩ : ∃ q3, k3 % 4 = q3 := ⟨_, rfl⟩
                    obtain ⟨b, hb⟩ : ∃ b, 4 + q1 = b := ⟨_, rfl⟩
                    obtain ⟨c, hc⟩ : ∃ c, 8 + q2 = c := ⟨_, rfl⟩
                    obtain ⟨d, hd⟩ : ∃ d, 12 + q3 = d := ⟨_, rfl⟩
                    obtain ⟨kk, hkk⟩ : ∃ kk, 2 * k = kk := ⟨_, rfl⟩
                    obtain ⟨e1, he1⟩ : ∃ e1, 8 + kk = e1 := ⟨_, rfl⟩
                    obtain ⟨e2, he2⟩ : ∃ e2, 9 + kk = e2 := ⟨_, rfl⟩
                    obtain ⟨s1, hs1⟩ : ∃ s1, s e1 = s1 := ⟨_, rfl⟩
                    obtain ⟨s2, hs2⟩ : ∃ s2, s e2 = s2 := ⟨_, rfl⟩
                    obtain ⟨X, hX⟩ : ∃ X, m s1 = X := ⟨_, rfl⟩
                    obtain ⟨Y, hY⟩ : ∃ Y, m s2 = Y := ⟨_, rfl⟩
                    have HMX := Lib.hid (show ∀ g wx, L4 wx g k b c d → Calls Tryd.prog 70 #[.agg (ar .u64 16 v), .slice (some ⟨g, 0, none⟩) 4 4, .int .u64 X, .int .u64 Y] wx (fun e w' => e = .returned (.agg (ar .u64 16 v')) ∧ Below wx.heap.size wx w') from fun g wx h4 => by
                      have e1 : mxv v k b c d X Y = v' := by
                        rw [← hv', ← hv, ← hb, ← hc, ← hd, ← hX, ← hY, ← hs1, ← hs2, ← he1, ← he2, ← hkk, ← hq1, ← hq2, ← hq3, ← hk1, ← hk2, ← hk3]
                        rfl
                      rw [← e1]
                      exact brmix_any g k b c d v X Y (by omega) (by omega) (by omega) (by omega) (by omega) (by omega) (by omega) (by omega) (by omega) (by omega) wx h4)
                    have hl1 := HSS.out e1 (by omega)
                    have hl2 := HSS.out e2 (by omega)
                    rw [hs1] at hl1
                    rw [hs2] at hl2
                    have HK := Lib.hid (And.intro (And.intro hk1 (And.intro hk2 (And.intro hk3 (And.intro hq1 (And.intro hq2 (And.intro hq3 (And.intro hb (And.intro hc hd)))))))) (And.intro hkk (And.intro he1 he2)))
                    have HL := Lib.hid (show k < 4 ∧ b < 16 ∧ c < 16 ∧ d < 16 ∧ kk < 16 ∧ e1 < 16 ∧ e2 < 16 ∧ s1 < 16 ∧ s2 < 16 ∧ k1 < 16 ∧ k2 < 16 ∧ k3 < 16 from ⟨hlt, by omega, by omega, by omega, by omega, by omega, by omega, hl1, hl2, by omega, by omega, by omega⟩)
                    have HS1 := Lib.hid hs1
                    have HS2 := Lib.hid hs2
                    have HX := Lib.hid hX
                    have HY := Lib.hid hY
                    have HVV := Lib.hid hv'
                    clear hl1 hl2 hs1 hs2 hX hY hv hv' hb hc hd hkk he2 hk1 hk2 hk3 hq1 hq2 hq3 he1
                    go_wp2_with fail
                    refine region_tieL (CS w h m t V pg rg s v) (CS w h m t V pg rg s v') 32 (fun i => match i with | 0 => 31 | 1 => 14 | 2 => 3 | 3 => 4 | 4 => 5 | 5 => 14 | 6 => 7 | 7 => 8 | 8 => 9 | 9 => 14 | 10 => 11 | 11 => 12 | 12 => 13 | 13 => 14 | 14 => 31 | 15 => 19 | 16 => 17 | 17 => 18 | 18 => 19 | 19 => 20 | 20 => 21 | 21 => 22 | 22 => 31 | 23 => 27 | 24 => 25 | 25 => 26 | 26 => 27 | 27 => 28 | 28 => 29 | 29 => 30 | 30 => 31 | 31 => 32 | _ => 0) (fun i s wx => match i with | 0 => s 100 = (.agg (ar .u64 16 v)) | 1 => s 101 = (.int .i64 (k : Nat)) | 2 => s 102 = (.int .i64 (k : Nat)) | 3 => s 103 = (.int .i64 (k1 : Nat)) | 4 => s 104 = (.int .i64 (q1 : Nat)) | 5 => s 105 = (.int .i64 (b : Nat)) | 6 => s 106 = (.int .i64 (k : Nat)) | 7 => s 107 = (.int .i64 (k2 : Nat)) | 8 => s 108 = (.int .i64 (q2 : Nat)) | 9 => s 109 = (.int .i64 (c : Nat)) | 10 => s 110 = (.int .i64 (k : Nat)) | 11 => s 111 = (.int .i64 (k3 : Nat)) | 12 => s 112 = (.int .i64 (q3 : Nat)) | 13 => s 113 = (.int .i64 (d : Nat)) | 14 => ∃ g, s 114 = .slice (some ⟨g, 0, none⟩) 4 4 ∧ V < g ∧ L4 wx g k b c d | 15 => s 115 = (.slice (some ⟨rg, 0, none⟩) 16 cg) | 16 => s 116 = (.int .i64 (k : Nat)) | 17 => s 117 = (.int .i64 (kk : Nat)) | 18 => s 118 = (.int .i64 (e1 : Nat)) | 19 => s 119 = (.pointer (some ⟨rg, e1, none⟩)) | 20 => s 120 = (.int .i64 (s1 : Nat)) | 21 => s 121 = (.pointer (some ⟨w.heap.size + 1, s1, none⟩)) | 22 => s 122 = (.int .u64 X) | 23 => s 123 = (.slice (some ⟨rg, 0, none⟩) 16 cg) | 24 => s 124 = (.int .i64 (k : Nat)) | 25 => s 125 = (.int .i64 (kk : Nat)) | 26 => s 126 = (.int .i64 (e2 : Nat)) | 27 => s 127 = (.pointer (some ⟨rg, e2, none⟩)) | 28 => s 128 = (.int .i64 (s2 : Nat)) | 29 => s 129 = (.pointer (some ⟨w.heap.size + 1, s2, none⟩)) | 30 => s 130 = (.int .u64 Y) | 31 => s 131 = .agg (ar .u64 16 v') | 32 => True | _ => True) (RV V) (fun i => match i with | 0 => [100] | 1 => [101] | 2 => [102] | 3 => [103] | 4 => [104] | 5 => [105] | 6 => [106] | 7 => [107] | 8 => [108] | 9 => [109] | 10 => [110] | 11 => [111] | 12 => [112] | 13 => [113] | 14 => [114] | 15 => [115] | 16 => [116] | 17 => [117] | 18 => [118] | 19 => [119] | 20 => [120] | 21 => [121] | 22 => [122] | 23 => [123] | 24 => [124] | 25 => [125] | 26 => [126] | 27 => [127] | 28 => [128] | 29 => [129] | 30 => [130] | 31 => [131] | 32 => [] | _ => []) (fun i => i) (by kernel_rfl) (by kernel_rfl) (by kernel_rfl) H.out.drew ?_ ?_ ?_ ?_
                    · intro i s s' wx he hp
                      match i, he, hp with
                      | 0, he, hp => exact (he 100 (by simp)).symm.trans hp
                      | 1, he, hp => exact (he 101 (by simp)).symm.trans hp
                      | 2, he, hp => exact (he 102 (by simp)).symm.trans hp
                      | 3, he, hp => exact (he 103 (by simp)).symm.trans hp
                      | 4, he, hp => exact (he 104 (by simp)).symm.trans hp
                      | 5, he, hp => exact (he 105 (by simp)).symm.trans hp
                      | 6, he, hp => exact (he 106 (by simp)).symm.trans hp
                      | 7, he, hp => exact (he 107 (by simp)).symm.trans hp
                      | 8, he, hp => exact (he 108 (by simp)).symm.trans hp
                      | 9, he, hp => exact (he 109 (by simp)).symm.trans hp
                      | 10, he, hp => exact (he 110 (by simp)).symm.trans hp
                      | 11, he, hp => exact (he 111 (by simp)).symm.trans hp
                      | 12, he, hp => exact (he 112 (by simp)).symm.trans hp
                      | 13, he, hp => exact (he 113 (by simp)).symm.trans hp
                      | 14, he, hp => obtain ⟨g, h1, h2, h3⟩ := hp; exact ⟨g, (he 114 (by simp)).symm.trans h1, h2, h3⟩
                      | 15, he, hp => exact (he 115 (by simp)).symm.trans hp
                      | 16, he, hp => exact (he 116 (by simp)).symm.trans hp
                      | 17, he, hp => exact (he 117 (by simp)).symm.trans hp
                      | 18, he, hp => exact (he 118 (by simp)).symm.trans hp
                      | 19, he, hp => exact (he 119 (by simp)).symm.trans hp
                      | 20, he, hp => exact (he 120 (by simp)).symm.trans hp
                      | 21, he, hp => exact (he 121 (by simp)).symm.trans hp
                      | 22, he, hp => exact (he 122 (by simp)).symm.trans hp
                      | 23, he, hp => exact (he 123 (by simp)).symm.trans hp
                      | 24, he, hp => exact (he 124 (by simp)).symm.trans hp
                      | 25, he, hp => exact (he 125 (by simp)).symm.trans hp
                      | 26, he, hp => exact (he 126 (by simp)).symm.trans hp
                      | 27, he, hp => exact (he 127 (by simp)).symm.trans hp
                      | 28, he, hp => exact (he 128 (by simp)).symm.trans hp
                      | 29, he, hp => exact (he 129 (by simp)).symm.trans hp
                      | 30, he, hp => exact (he 130 (by simp)).symm.trans hp
                      | 31, he, hp => exact (he 131 (by simp)).symm.trans hp
                      | 32, he, hp => trivial
                      | _ + 33, _, _ => trivial
                    · intro i s wa wb hR hp
                      match i, hp with
                      | 0, hp => exact hp
                      | 1, hp => exact hp
                      | 2, hp => exact hp
                      | 3, hp => exact hp
                      | 4, hp => exact hp
                      | 5, hp => exact hp
                      | 6, hp => exact hp
                      | 7, hp => exact hp
                      | 8, hp => exact hp
                      | 9, hp => exact hp
                      | 10, hp => exact hp
                      | 11, hp => exact hp
                      | 12, hp => exact hp
                      | 13, hp => exact hp
                      | 14, hp => obtain ⟨g, h1, h2, h3⟩ := hp; exact ⟨g, h1, h2, h3.rv h2 hR⟩
                      | 15, hp => exact hp
                      | 16, hp => exact hp
                      | 17, hp => exact hp
                      | 18, hp => exact hp
                      | 19, hp => exact hp
                      | 20, hp => exact hp
                      | 21, hp => exact hp
                      | 22, hp => exact hp
                      | 23, hp => exact hp
                      | 24, hp => exact hp
                      | 25, hp => exact hp
                      | 26, hp => exact hp
                      | 27, hp => exact hp
                      | 28, hp => exact hp
                      | 29, hp => exact hp
                      | 30, hp => exact hp
                      | 31, hp => exact hp
                      | 32, hp => trivial
                      | _ + 33, _ => trivial
                    · refine ⟨?_, ?_, ?_, ?_, ?_, ?_, ?_, ?_, ?_, ?_, ?_, ?_, ?_, ?_, ?_, ?_, ?_, ?_, ?_, ?_, ?_, ?_, ?_, ?_, ?_, ?_, ?_, ?_, ?_, ?_, ?_, ?_, ?_, trivial⟩
                      · intro a wx hC hsz hK
                        refine ⟨by kernel_rfl, ?_⟩
                        have h0 : a.tmps.getD 11 undef = (.pointer (some ⟨V, 0, none⟩)) := hK.1 11 (by kernel_rfl)
                        exact tt_load 55 (.tmp 11) ((.pointer (some ⟨V, 0, none⟩))) ((.agg (ar .u64 16 v))) rfl (by kernel_rfl) h0 (load_16u hC.g.rV) hC (slots_put _ _ _ (by rw [hsz]; exact of_decide_eq_true (by kernel_rfl))) (RV.refl _ _)
                      · intro a wx hC hsz hK
                        refine ⟨by kernel_rfl, ?_⟩
                        have h0 : a.tmps.getD 17 undef = (.int .i64 (k : Nat)) := hK.1 17 (by kernel_rfl)
                        exact tt_val ((.int .i64 (k : Nat))) (by kernel_rfl) (by rw [← h0]; kernel_rfl) hC (slots_put _ _ _ (by rw [hsz]; exact of_decide_eq_true (by kernel_rfl))) (RV.refl _ _)
                      · intro a wx hC hsz hK
                        refine ⟨by kernel_rfl, ?_⟩
                        have h0 : a.tmps.getD 17 undef = (.int .i64 (k : Nat)) := hK.1 17 (by kernel_rfl)
                        exact tt_val ((.int .i64 (k : Nat))) (by kernel_rfl) (by rw [← h0]; kernel_rfl) hC (slots_put _ _ _ (by rw [hsz]; exact of_decide_eq_true (by kernel_rfl))) (RV.refl _ _)
                      · intro a wx hC hsz hK
                        refine ⟨by kernel_rfl, ?_⟩
                        have h0 : a.tmps.getD 102 undef = (.int .i64 (k : Nat)) := hK.2 ⟨2, .data⟩ (by simp) rfl _ rfl
                        refine tt_v (binOp BinOp.add 3 (a.tmps.getD 102 undef) (.int .i64 (1 : Nat))) ((.int .i64 (k1 : Nat))) (by kernel_rfl) (by kernel_rfl) ?_ hC (slots_put _ _ _ (by rw [hsz]; exact of_decide_eq_true (by kernel_rfl))) (RV.refl _ _)
                        rw [h0]
                        exact add_i _ _ _ HK.out.1.1 (by have := HL.out; omega) wx
                      · intro a wx hC hsz hK
                        refine ⟨by kernel_rfl, ?_⟩
                        have h0 : a.tmps.getD 103 undef = (.int .i64 (k1 : Nat)) := hK.2 ⟨3, .data⟩ (by simp) rfl _ rfl
                        refine tt_v (binOp BinOp.rem 3 (a.tmps.getD 103 undef) (.int .i64 4)) ((.int .i64 (q1 : Nat))) (by kernel_rfl) (by kernel_rfl) ?_ hC (slots_put _ _ _ (by rw [hsz]; exact of_decide_eq_true (by kernel_rfl))) (RV.refl _ _)
                        rw [h0]
                        exact rem_i4 _ _ HK.out.1.2.2.2.1 wx
                      · intro a wx hC hsz hK
                        refine ⟨by kernel_rfl, ?_⟩
                        have h0 : a.tmps.getD 104 undef = (.int .i64 (q1 : Nat)) := hK.2 ⟨4, .data⟩ (by simp) rfl _ rfl
                        refine tt_v (binOp BinOp.add 3 (.int .i64 (4 : Nat)) (a.tmps.getD 104 undef)) ((.int .i64 (b : Nat))) (by kernel_rfl) (by kernel_rfl) ?_ hC (slots_put _ _ _ (by rw [hsz]; exact of_decide_eq_true (by kernel_rfl))) (RV.refl _ _)
                        rw [h0]
                        exact add_i _ _ _ HK.out.1.2.2.2.2.2.2.1 (by have := HL.out; omega) wx
                      · intro a wx hC hsz hK
                        refine ⟨by kernel_rfl, ?_⟩
                        have h0 : a.tmps.getD 17 undef = (.int .i64 (k : Nat)) := hK.1 17 (by kernel_rfl)
                        exact tt_val ((.int .i64 (k : Nat))) (by kernel_rfl) (by rw [← h0]; kernel_rfl) hC (slots_put _ _ _ (by rw [hsz]; exact of_decide_eq_true (by kernel_rfl))) (RV.refl _ _)
                      · intro a wx hC hsz hK
                        refine ⟨by kernel_rfl, ?_⟩
                        have h0 : a.tmps.getD 106 undef = (.int .i64 (k : Nat)) := hK.2 ⟨6, .data⟩ (by simp) rfl _ rfl
                        refine tt_v (binOp BinOp.add 3 (a.tmps.getD 106 undef) (.int .i64 (2 : Nat))) ((.int .i64 (k2 : Nat))) (by kernel_rfl) (by kernel_rfl) ?_ hC (slots_put _ _ _ (by rw [hsz]; exact of_decide_eq_true (by kernel_rfl))) (RV.refl _ _)
                        rw [h0]
                        exact add_i _ _ _ HK.out.1.2.1 (by have := HL.out; omega) wx
                      · intro a wx hC hsz hK
                        refine ⟨by kernel_rfl, ?_⟩
                        have h0 : a.tmps.getD 107 undef = (.int .i64 (k2 : Nat)) := hK.2 ⟨7, .data⟩ (by simp) rfl _ rfl
                        refine tt_v (binOp BinOp.rem 3 (a.tmps.getD 107 undef) (.int .i64 4)) ((.int .i64 (q2 : Nat))) (by kernel_rfl) (by kernel_rfl) ?_ hC (slots_put _ _ _ (by rw [hsz]; exact of_decide_eq_true (by kernel_rfl))) (RV.refl _ _)
                        rw [h0]
                        exact rem_i4 _ _ HK.out.1.2.2.2.2.1 wx
                      · intro a wx hC hsz hK
                        refine ⟨by kernel_rfl, ?_⟩
                        have h0 : a.tmps.getD 108 undef = (.int .i64 (q2 : Nat)) := hK.2 ⟨8, .data⟩ (by simp) rfl _ rfl
                        refine tt_v (binOp BinOp.add 3 (.int .i64 (8 : Nat)) (a.tmps.getD 108 undef)) ((.int .i64 (c : Nat))) (by kernel_rfl) (by kernel_rfl) ?_ hC (slots_put _ _ _ (by rw [hsz]; exact of_decide_eq_true (by kernel_rfl))) (RV.refl _ _)
                        rw [h0]
                        exact add_i _ _ _ HK.out.1.2.2.2.2.2.2.2.1 (by have := HL.out; omega) wx
                      · intro a wx hC hsz hK
                        refine ⟨by kernel_rfl, ?_⟩
                        have h0 : a.tmps.getD 17 undef = (.int .i64 (k : Nat)) := hK.1 17 (by kernel_rfl)
                        exact tt_val ((.int .i64 (k : Nat))) (by kernel_rfl) (by rw [← h0]; kernel_rfl) hC (slots_put _ _ _ (by rw [hsz]; exact of_decide_eq_true (by kernel_rfl))) (RV.refl _ _)
                      · intro a wx hC hsz hK
                        refine ⟨by kernel_rfl, ?_⟩
                        have h0 : a.tmps.getD 110 undef = (.int .i64 (k : Nat)) := hK.2 ⟨10, .data⟩ (by simp) rfl _ rfl
                        refine tt_v (binOp BinOp.add 3 (a.tmps.getD 110 undef) (.int .i64 (3 : Nat))) ((.int .i64 (k3 : Nat))) (by kernel_rfl) (by kernel_rfl) ?_ hC (slots_put _ _ _ (by rw [hsz]; exact of_decide_eq_true (by kernel_rfl))) (RV.refl _ _)
                        rw [h0]
                        exact add_i _ _ _ HK.out.1.2.2.1 (by have := HL.out; omega) wx
                      · intro a wx hC hsz hK
                        refine ⟨by kernel_rfl, ?_⟩
                        have h0 : a.tmps.getD 111 undef = (.int .i64 (k3 : Nat)) := hK.2 ⟨11, .data⟩ (by simp) rfl _ rfl
                        refine tt_v (binOp BinOp.rem 3 (a.tmps.getD 111 undef) (.int .i64 4)) ((.int .i64 (q3 : Nat))) (by kernel_rfl) (by kernel_rfl) ?_ hC (slots_put _ _ _ (by rw [hsz]; exact of_decide_eq_true (by kernel_rfl))) (RV.refl _ _)
                        rw [h0]
                        exact rem_i4 _ _ HK.out.1.2.2.2.2.2.1 wx
                      · intro a wx hC hsz hK
                        refine ⟨by kernel_rfl, ?_⟩
                        have h0 : a.tmps.getD 112 undef = (.int .i64 (q3 : Nat)) := hK.2 ⟨12, .data⟩ (by simp) rfl _ rfl
                        refine tt_v (binOp BinOp.add 3 (.int .i64 (12 : Nat)) (a.tmps.getD 112 undef)) ((.int .i64 (d : Nat))) (by kernel_rfl) (by kernel_rfl) ?_ hC (slots_put _ _ _ (by rw [hsz]; exact of_decide_eq_true (by kernel_rfl))) (RV.refl _ _)
                        rw [h0]
                        exact add_i _ _ _ HK.out.1.2.2.2.2.2.2.2.2 (by have := HL.out; omega) wx
                      · intro a wx hC hsz hK
                        refine ⟨by kernel_rfl, ?_⟩
                        have h0 : a.tmps.getD 101 undef = (.int .i64 (k : Nat)) := hK.2 ⟨1, .data⟩ (by simp) rfl _ rfl
                        have h1 : a.tmps.getD 105 undef = (.int .i64 (b : Nat)) := hK.2 ⟨5, .data⟩ (by simp) rfl _ rfl
                        have h2 : a.tmps.getD 109 undef = (.int .i64 (c : Nat)) := hK.2 ⟨9, .data⟩ (by simp) rfl _ rfl
                        have h3 : a.tmps.getD 113 undef = (.int .i64 (d : Nat)) := hK.2 ⟨13, .data⟩ (by simp) rfl _ rfl
                        refine tt_v (bsl (a.tmps.getD 101 undef) (a.tmps.getD 105 undef) (a.tmps.getD 109 undef) (a.tmps.getD 113 undef)) (.slice (some ⟨wx.heap.size, 0, none⟩) 4 4) (by kernel_rfl) (by kernel_rfl) ?_ (hC.below ((Below.refl _ _).alloc (Nat.le_refl _) (.cells #[.int .i64 (k : Nat), .int .i64 (b : Nat), .int .i64 (c : Nat), .int .i64 (d : Nat)] 3))) ⟨_, (slots_put _ _ _ (by rw [hsz]; exact of_decide_eq_true (by kernel_rfl))), hC.g.high, L4.new _ _ _ _ _⟩ (RV.of ((Below.refl _ _).alloc (Nat.le_refl _) _))
                        rw [h0, h1, h2, h3]
                        exact run_bsl k b c d wx
                      · intro a wx hC hsz hK
                        refine ⟨by kernel_rfl, ?_⟩
                        have h0 : a.tmps.getD 15 undef = (.slice (some ⟨rg, 0, none⟩) 16 cg) := hK.1 15 (by kernel_rfl)
                        exact tt_val ((.slice (some ⟨rg, 0, none⟩) 16 cg)) (by kernel_rfl) (by rw [← h0]; kernel_rfl) hC (slots_put _ _ _ (by rw [hsz]; exact of_decide_eq_true (by kernel_rfl))) (RV.refl _ _)
                      · intro a wx hC hsz hK
                        refine ⟨by kernel_rfl, ?_⟩
                        have h0 : a.tmps.getD 17 undef = (.int .i64 (k : Nat)) := hK.1 17 (by kernel_rfl)
                        exact tt_val ((.int .i64 (k : Nat))) (by kernel_rfl) (by rw [← h0]; kernel_rfl) hC (slots_put _ _ _ (by rw [hsz]; exact of_decide_eq_true (by kernel_rfl))) (RV.refl _ _)
                      · intro a wx hC hsz hK
                        refine ⟨by kernel_rfl, ?_⟩
                        have h0 : a.tmps.getD 116 undef = (.int .i64 (k : Nat)) := hK.2 ⟨16, .data⟩ (by simp) rfl _ rfl
                        refine tt_v (binOp BinOp.mul 3 (.int .i64 (2 : Nat)) (a.tmps.getD 116 undef)) ((.int .i64 (kk : Nat))) (by kernel_rfl) (by kernel_rfl) ?_ hC (slots_put _ _ _ (by rw [hsz]; exact of_decide_eq_true (by kernel_rfl))) (RV.refl _ _)
                        rw [h0]
                        exact mul_i _ _ _ HK.out.2.1 (by have := HL.out; omega) wx
                      · intro a wx hC hsz hK
                        refine ⟨by kernel_rfl, ?_⟩
                        have h0 : a.tmps.getD 117 undef = (.int .i64 (kk : Nat)) := hK.2 ⟨17, .data⟩ (by simp) rfl _ rfl
                        refine tt_v (binOp BinOp.add 3 (.int .i64 (8 : Nat)) (a.tmps.getD 117 undef)) ((.int .i64 (e1 : Nat))) (by kernel_rfl) (by kernel_rfl) ?_ hC (slots_put _ _ _ (by rw [hsz]; exact of_decide_eq_true (by kernel_rfl))) (RV.refl _ _)
                        rw [h0]
                        exact add_i _ _ _ HK.out.2.2.1 (by have := HL.out; omega) wx
                      · intro a wx hC hsz hK
                        refine ⟨by kernel_rfl, ?_⟩
                        have h0 : a.tmps.getD 115 undef = (.slice (some ⟨rg, 0, none⟩) 16 cg) := hK.2 ⟨15, .data⟩ (by simp) rfl _ rfl
                        have h1 : a.tmps.getD 118 undef = (.int .i64 (e1 : Nat)) := hK.2 ⟨18, .data⟩ (by simp) rfl _ rfl
                        refine tt_v (Instr.indexAt 107 (a.tmps.getD 115 undef) (a.tmps.getD 118 undef)) ((.pointer (some ⟨rg, e1, none⟩))) (by kernel_rfl) (by kernel_rfl) ?_ hC (slots_put _ _ _ (by rw [hsz]; exact of_decide_eq_true (by kernel_rfl))) (RV.refl _ _)
                        rw [h0, h1]
                        exact atLi rg 16 cg e1 (by have := HL.out; omega) wx
                      · intro a wx hC hsz hK
                        refine ⟨by kernel_rfl, ?_⟩
                        have h0 : a.tmps.getD 119 undef = (.pointer (some ⟨rg, e1, none⟩)) := hK.2 ⟨19, .data⟩ (by simp) rfl _ rfl
                        exact tt_load 3 (.tmp 119) ((.pointer (some ⟨rg, e1, none⟩))) ((.int .i64 (s1 : Nat))) rfl (by kernel_rfl) h0 (by rw [← HS1.out]; exact load_i64 _ _ _ _ (hC.row e1 (by have := HL.out; omega))) hC (slots_put _ _ _ (by rw [hsz]; exact of_decide_eq_true (by kernel_rfl))) (RV.refl _ _)
                      · intro a wx hC hsz hK
                        refine ⟨by kernel_rfl, ?_⟩
                        have h0 : a.tmps.getD 7 undef = (.pointer (some ⟨w.heap.size + 1, 0, none⟩)) := hK.1 7 (by kernel_rfl)
                        have h1 : a.tmps.getD 120 undef = (.int .i64 (s1 : Nat)) := hK.2 ⟨20, .data⟩ (by simp) rfl _ rfl
                        refine tt_v (Instr.indexAt 55 (a.tmps.getD 7 undef) (a.tmps.getD 120 undef)) ((.pointer (some ⟨w.heap.size + 1, s1, none⟩))) (by kernel_rfl) (by kernel_rfl) ?_ hC (slots_put _ _ _ (by rw [hsz]; exact of_decide_eq_true (by kernel_rfl))) (RV.refl _ _)
                        rw [h0, h1]
                        exact at16 _ _ (by have := HL.out; omega) wx
                      · intro a wx hC hsz hK
                        refine ⟨by kernel_rfl, ?_⟩
                        have h0 : a.tmps.getD 121 undef = (.pointer (some ⟨w.heap.size + 1, s1, none⟩)) := hK.2 ⟨21, .data⟩ (by simp) rfl _ rfl
                        exact tt_load 34 (.tmp 121) ((.pointer (some ⟨w.heap.size + 1, s1, none⟩))) ((.int .u64 X)) rfl (by kernel_rfl) h0 (load_u64 _ _ _ _ ((cell_row16 hC.g.r1 _ (by have := HL.out; omega)).trans (by rw [HX.out]))) hC (slots_put _ _ _ (by rw [hsz]; exact of_decide_eq_true (by kernel_rfl))) (RV.refl _ _)
                      · intro a wx hC hsz hK
                        refine ⟨by kernel_rfl, ?_⟩
                        have h0 : a.tmps.getD 15 undef = (.slice (some ⟨rg, 0, none⟩) 16 cg) := hK.1 15 (by kernel_rfl)
                        exact tt_val ((.slice (some ⟨rg, 0, none⟩) 16 cg)) (by kernel_rfl) (by rw [← h0]; kernel_rfl) hC (slots_put _ _ _ (by rw [hsz]; exact of_decide_eq_true (by kernel_rfl))) (RV.refl _ _)
                      · intro a wx hC hsz hK
                        refine ⟨by kernel_rfl, ?_⟩
                        have h0 : a.tmps.getD 17 undef = (.int .i64 (k : Nat)) := hK.1 17 (by kernel_rfl)
                        exact tt_val ((.int .i64 (k : Nat))) (by kernel_rfl) (by rw [← h0]; kernel_rfl) hC (slots_put _ _ _ (by rw [hsz]; exact of_decide_eq_true (by kernel_rfl))) (RV.refl _ _)
                      · intro a wx hC hsz hK
                        refine ⟨by kernel_rfl, ?_⟩
                        have h0 : a.tmps.getD 124 undef = (.int .i64 (k : Nat)) := hK.2 ⟨24, .data⟩ (by simp) rfl _ rfl
                        refine tt_v (binOp BinOp.mul 3 (.int .i64 (2 : Nat)) (a.tmps.getD 124 undef)) ((.int .i64 (kk : Nat))) (by kernel_rfl) (by kernel_rfl) ?_ hC (slots_put _ _ _ (by rw [hsz]; exact of_decide_eq_true (by kernel_rfl))) (RV.refl _ _)
                        rw [h0]
                        exact mul_i _ _ _ HK.out.2.1 (by have := HL.out; omega) wx
                      · intro a wx hC hsz hK
                        refine ⟨by kernel_rfl, ?_⟩
                        have h0 : a.tmps.getD 125 undef = (.int .i64 (kk : Nat)) := hK.2 ⟨25, .data⟩ (by simp) rfl _ rfl
                        refine tt_v (binOp BinOp.add 3 (.int .i64 (9 : Nat)) (a.tmps.getD 125 undef)) ((.int .i64 (e2 : Nat))) (by kernel_rfl) (by kernel_rfl) ?_ hC (slots_put _ _ _ (by rw [hsz]; exact of_decide_eq_true (by kernel_rfl))) (RV.refl _ _)
                        rw [h0]
                        exact add_i _ _ _ HK.out.2.2.2 (by have := HL.out; omega) wx
                      · intro a wx hC hsz hK
                        refine ⟨by kernel_rfl, ?_⟩
                        have h0 : a.tmps.getD 123 undef = (.slice (some ⟨rg, 0, none⟩) 16 cg) := hK.2 ⟨23, .data⟩ (by simp) rfl _ rfl
                        have h1 : a.tmps.getD 126 undef = (.int .i64 (e2 : Nat)) := hK.2 ⟨26, .data⟩ (by simp) rfl _ rfl
                        refine tt_v (Instr.indexAt 107 (a.tmps.getD 123 undef) (a.tmps.getD 126 undef)) ((.pointer (some ⟨rg, e2, none⟩))) (by kernel_rfl) (by kernel_rfl) ?_ hC (slots_put _ _ _ (by rw [hsz]; exact of_decide_eq_true (by kernel_rfl))) (RV.refl _ _)
                        rw [h0, h1]
                        exact atLi rg 16 cg e2 (by have := HL.out; omega) wx
                      · intro a wx hC hsz hK
                        refine ⟨by kernel_rfl, ?_⟩
                        have h0 : a.tmps.getD 127 undef = (.pointer (some ⟨rg, e2, none⟩)) := hK.2 ⟨27, .data⟩ (by simp) rfl _ rfl
                        exact tt_load 3 (.tmp 127) ((.pointer (some ⟨rg, e2, none⟩))) ((.int .i64 (s2 : Nat))) rfl (by kernel_rfl) h0 (by rw [← HS2.out]; exact load_i64 _ _ _ _ (hC.row e2 (by have := HL.out; omega))) hC (slots_put _ _ _ (by rw [hsz]; exact of_decide_eq_true (by kernel_rfl))) (RV.refl _ _)
                      · intro a wx hC hsz hK
                        refine ⟨by kernel_rfl, ?_⟩
                        have h0 : a.tmps.getD 7 undef = (.pointer (some ⟨w.heap.size + 1, 0, none⟩)) := hK.1 7 (by kernel_rfl)
                        have h1 : a.tmps.getD 128 undef = (.int .i64 (s2 : Nat)) := hK.2 ⟨28, .data⟩ (by simp) rfl _ rfl
                        refine tt_v (Instr.indexAt 55 (a.tmps.getD 7 undef) (a.tmps.getD 128 undef)) ((.pointer (some ⟨w.heap.size + 1, s2, none⟩))) (by kernel_rfl) (by kernel_rfl) ?_ hC (slots_put _ _ _ (by rw [hsz]; exact of_decide_eq_true (by kernel_rfl))) (RV.refl _ _)
                        rw [h0, h1]
                        exact at16 _ _ (by have := HL.out; omega) wx
                      · intro a wx hC hsz hK
                        refine ⟨by kernel_rfl, ?_⟩
                        have h0 : a.tmps.getD 129 undef = (.pointer (some ⟨w.heap.size + 1, s2, none⟩)) := hK.2 ⟨29, .data⟩ (by simp) rfl _ rfl
                        exact tt_load 34 (.tmp 129) ((.pointer (some ⟨w.heap.size + 1, s2, none⟩))) ((.int .u64 Y)) rfl (by kernel_rfl) h0 (load_u64 _ _ _ _ ((cell_row16 hC.g.r1 _ (by have := HL.out; omega)).trans (by rw [HY.out]))) hC (slots_put _ _ _ (by rw [hsz]; exact of_decide_eq_true (by kernel_rfl))) (RV.refl _ _)
                      · intro a wx hC hsz hK
                        refine ⟨by kernel_rfl, ?_⟩
                        have h0 : a.tmps.getD 100 undef = (.agg (ar .u64 16 v)) := hK.2 ⟨0, .data⟩ (by simp) rfl _ rfl
                        obtain ⟨g, h1, h2, h3⟩ := hK.2 ⟨14, .data⟩ (by simp) rfl _ rfl
                        have h4 : a.tmps.getD 122 undef = (.int .u64 X) := hK.2 ⟨22, .data⟩ (by simp) rfl _ rfl
                        have h5 : a.tmps.getD 130 undef = (.int .u64 Y) := hK.2 ⟨30, .data⟩ (by simp) rfl _ rfl
                        refine tt_call 70 #[a.tmps.getD 100 undef, a.tmps.getD 114 undef, a.tmps.getD 122 undef, a.tmps.getD 130 undef] (by kernel_rfl) (by kernel_rfl) ?_
                        rw [h0, h4, h5, show a.tmps.getD 114 undef = _ from h1]
                        exact (HMX.out g wx h3).mono fun e w' hh => ⟨_, hh.1, hC.below hh.2, (slots_put _ _ _ (by rw [hsz]; exact of_decide_eq_true (by kernel_rfl))), RV.of hh.2⟩
                      · intro a wx hC hsz hK
                        refine ⟨by kernel_rfl, ?_⟩
                        have h0 : a.tmps.getD 11 undef = (.pointer (some ⟨V, 0, none⟩)) := hK.1 11 (by kernel_rfl)
                        have h1 : a.tmps.getD 131 undef = (.agg (ar .u64 16 v')) := hK.2 ⟨31, .data⟩ (by simp) rfl _ rfl
                        exact tt_store (by kernel_rfl) rfl (run_st 55 (.tmp 11) (.tmp 131) _ _ rfl h0 h1 (store_16 hC.g.rV)) (hC.set v') trivial (RV.row _)
                    intro f1 wy hCy _
                    have HC := Lib.hid hCy
                    clear hCy H HMX HS1 HS2 HX HY HK
                    simp only [putAll, Act.put, List.setIfInBounds_toArray, List.set_cons_succ, List.set_cons_zero]
                    go_wp2_with fail
                    go_roundw
                    case rel => exact ⟨k + 1, by have := HL.out; omega, by go_num, by rw [HVV.out]; exact HC⟩
                    case measure => have := HL.out; simp [intOf]; omega
                  · obtain rfl : k = 4 := by omega
                    have hlt2 : ¬ ((4 : Nat) : Int) < 4 := by omega
                    go_wp2_with fail
                    go_roundw
                    case rel =>
                      refine ⟨n + 1, by have := HL0.out.1; omega, by go_num, Lib.hid ?_⟩
                      have e : vrn v0 m (n + 1) = mxe vd (ord m s) 4 := by
                        show rnd (vrn v0 m n) (ord m (sig (n % 10))) = _
                        rw [HSV.out.1, HSV.out.2, ← HVD.out, rnd_mxe]
                      rw [e]
                      exact H.out.g
                    case measure => have := HL0.out.1; simp [intOf]; omega
          · obtain rfl : n = N := by omega
            obtain ⟨u, hu⟩ : ∃ u, vrn v0 m n = u := ⟨_, rfl⟩
            rw [hu] at H
            have HU := Lib.hid hu
            clear hu
            have H8 := Lib.hid (show CG w (bfD h u 0) m t V pg u wr from by rw [show bfD h u 0 = h from by funext i; unfold bfD; rw [if_neg (by omega)]]; exact H.out)
            clear H hlt
            by_cases hc : n < r
            · have hlr : (n : Int) < r := by omega
              have hl6 : ¬ (n : Int) < 65536 := by omega
              clear hr1 hN2 hc
              go_wp2_with fail
              go_loopw [18] (fun i wr => ∃ j : Nat, j ≤ 8 ∧ i = .int .i64 j ∧ Hid (CG w (bfD h u j) m t V pg u wr)) (fun i _ => 8 - (intOf i).toNat)
              case atStart => exact ⟨0, by omega, rfl, H8⟩
              case round =>
                obtain ⟨j, hj, rfl, HJ2⟩ := hrel
                clear H8
                have hj0 : (0 : Int) ≤ j := by omega
                by_cases hjl : j < 8
                · have hjl' : (j : Int) < 8 := by omega
                  obtain ⟨z, hz⟩ : ∃ z : Nat, 8 + (j : Int) = (z : Int) := ⟨8 + j, by omega⟩
                  have hz0 : (0 : Int) ≤ z := by omega
                  have hz1 : (z : Int) < 16 := by omega
                  have hwz : IntKind.i64.wrap (z : Int) = (z : Int) := by rw [IntKind.wrap_i64]; omega
                  have hj16 : (j : Int) < 16 := by omega
                  have c0 : wr.cell? ⟨w.heap.size, j, none⟩ = some (.int .u64 (h j)) := ((cell_of_row wr _ j _ _ _ HJ2.out.r0).trans (ar_at _ _ _ _ hjl)).trans (by unfold bfD; rw [if_neg (by omega)])
                  have f0 := frozen_of_row wr _ j _ _ HJ2.out.r0
                  have c1 := cell_row16 HJ2.out.rV j (by omega)
                  have c2 := cell_row16 HJ2.out.rV z (by omega)
                  have HV := Lib.hid (show bits .xor .u64 (bits .xor .u64 (h j) (u j)) (u z) = bfi h u j from by rw [← bfi_ref, show 8 + j = z by omega])
                  have HS := Lib.hid (CG.hset HJ2.out j hjl (bfi h u j))
                  go_wp2_with fail
                  go_region
                  go_wp2
                  go_roundw
                  case rel =>
                    refine ⟨j + 1, by omega, by go_num, Lib.hid ?_⟩
                    rw [HV.out]
                    have e : updI (bfD h u j) j (bfi h u j) = bfD h u (j + 1) := funext fun i => bfD_next i
                    rw [← e]
                    exact HS.out.drew
                  case measure => simp [intOf]; omega
                · obtain rfl : j = 8 := by omega
                  have hjl' : ¬ ((8 : Nat) : Int) < 8 := by omega
                  have hfull : ar .u64 8 (bfD h u 8) = ar .u64 8 (bfi h u) := ar_congr fun i hi => by unfold bfD; rw [if_pos hi]
                  have h0 := HJ2.out.r0
                  rw [hfull] at h0
                  obtain ⟨ro, hro⟩ : ∃ ro, bfi h u = ro := ⟨_, rfl⟩
                  rw [hro] at h0
                  have H0x := Lib.hid (And.intro h0 (And.intro HJ2.out.r3 HJ2.out.old))
                  have HRO := Lib.hid hro
                  have HI : Hid ((Tryd.prog.info? 54).map (·.size) = some (ar .u64 8 ro).size) := Lib.hid (by rw [ar_size]; exact info8u)
                  clear h0 hro hfull HJ2
                  go_wp2_with (first | (refine wpList_load_row rfl 54 _ rfl w.heap.size rfl 54 (ar .u64 8 ro) (0, 0) _ (by exact H0x.out.1) Tryd.underlying54 rfl HI.out ?_) | (refine wpList_store_row rfl 54 _ _ rfl (w.heap.size + 1 + 1 + 1) (ar .u64 8 ro) rfl rfl 54 #[.int .u64 0, .int .u64 0, .int .u64 0, .int .u64 0, .int .u64 0, .int .u64 0, .int .u64 0, .int .u64 0] (by exact H0x.out.2.1) HI.out (by rw [ar_size]; rfl) (ar_one _ _ _) ?_))
                  (try simp only [Act.put, List.setIfInBounds_toArray, List.set_cons_succ, List.set_cons_zero])
                  refine bodyPost_ret (v := .agg (ar .u64 8 ro)) (results_cell_row (p := 10) rfl _ _ (w.heap.size + 1 + 1 + 1) 54 (ar .u64 8 ro) (0, 0) _ rfl (setRow_heap _ _ _ _ _ _ H0x.out.2.1) Tryd.underlying54 rfl HI.out) rfl ⟨?_, below_setRow H0x.out.2.2 (by omega) _⟩
                  rw [HV0.out, HU.out, HRO.out]
            · have hlr : ¬ (n : Int) < r := by omega
              clear hr1 hN2 hc
              go_wp2_with fail
              go_loopw [18] (fun i wr => ∃ j : Nat, j ≤ 8 ∧ i = .int .i64 j ∧ Hid (CG w (bfD h u j) m t V pg u wr)) (fun i _ => 8 - (intOf i).toNat)
              case atStart => exact ⟨0, by omega, rfl, H8⟩
              case round =>
                obtain ⟨j, hj, rfl, HJ2⟩ := hrel
                clear H8
                have hj0 : (0 : Int) ≤ j := by omega
                by_cases hjl : j < 8
                · have hjl' : (j : Int) < 8 := by omega
                  obtain ⟨z, hz⟩ : ∃ z : Nat, 8 + (j : Int) = (z : Int) := ⟨8 + j, by omega⟩
                  have hz0 : (0 : Int) ≤ z := by omega
                  have hz1 : (z : Int) < 16 := by omega
                  have hwz : IntKind.i64.wrap (z : Int) = (z : Int) := by rw [IntKind.wrap_i64]; omega
                  have hj16 : (j : Int) < 16 := by omega
                  have c0 : wr.cell? ⟨w.heap.size, j, none⟩ = some (.int .u64 (h j)) := ((cell_of_row wr _ j _ _ _ HJ2.out.r0).trans (ar_at _ _ _ _ hjl)).trans (by unfold bfD; rw [if_neg (by omega)])
                  have f0 := frozen_of_row wr _ j _ _ HJ2.out.r0
                  have c1 := cell_row16 HJ2.out.rV j (by omega)
                  have c2 := cell_row16 HJ2.out.rV z (by omega)
                  have HV := Lib.hid (show bits .xor .u64 (bits .xor .u64 (h j) (u j)) (u z) = bfi h u j from by rw [← bfi_ref, show 8 + j = z by omega])
                  have HS := Lib.hid (CG.hset HJ2.out j hjl (bfi h u j))
                  go_wp2_with fail
                  go_region
                  go_wp2
                  go_roundw
                  case rel =>
                    refine ⟨j + 1, by omega, by go_num, Lib.hid ?_⟩
                    rw [HV.out]
                    have e : updI (bfD h u j) j (bfi h u j) = bfD h u (j + 1) := funext fun i => bfD_next i
                    rw [← e]
                    exact HS.out.drew
                  case measure => simp [intOf]; omega
                · obtain rfl : j = 8 := by omega
                  have hjl' : ¬ ((8 : Nat) : Int) < 8 := by omega
                  have hfull : ar .u64 8 (bfD h u 8) = ar .u64 8 (bfi h u) := ar_congr fun i hi => by unfold bfD; rw [if_pos hi]
                  have h0 := HJ2.out.r0
                  rw [hfull] at h0
                  obtain ⟨ro, hro⟩ : ∃ ro, bfi h u = ro := ⟨_, rfl⟩
                  rw [hro] at h0
                  have H0x := Lib.hid (And.intro h0 (And.intro HJ2.out.r3 HJ2.out.old))
                  have HRO := Lib.hid hro
                  have HI : Hid ((Tryd.prog.info? 54).map (·.size) = some (ar .u64 8 ro).size) := Lib.hid (by rw [ar_size]; exact info8u)
                  clear h0 hro hfull HJ2
                  go_wp2_with (first | (refine wpList_load_row rfl 54 _ rfl w.heap.size rfl 54 (ar .u64 8 ro) (0, 0) _ (by exact H0x.out.1) Tryd.underlying54 rfl HI.out ?_) | (refine wpList_store_row rfl 54 _ _ rfl (w.heap.size + 1 + 1 + 1) (ar .u64 8 ro) rfl rfl 54 #[.int .u64 0, .int .u64 0, .int .u64 0, .int .u64 0, .int .u64 0, .int .u64 0, .int .u64 0, .int .u64 0] (by exact H0x.out.2.1) HI.out (by rw [ar_size]; rfl) (ar_one _ _ _) ?_))
                  (try simp only [Act.put, List.setIfInBounds_toArray, List.set_cons_succ, List.set_cons_zero])
                  refine bodyPost_ret (v := .agg (ar .u64 8 ro)) (results_cell_row (p := 10) rfl _ _ (w.heap.size + 1 + 1 + 1) 54 (ar .u64 8 ro) (0, 0) _ rfl (setRow_heap _ _ _ _ _ _ H0x.out.2.1) Tryd.underlying54 rfl HI.out) rfl ⟨?_, below_setRow H0x.out.2.2 (by omega) _⟩
                  rw [HV0.out, HU.out, HRO.out]
end Go.Proofs.YtoeomlmnejhgpaaDoor

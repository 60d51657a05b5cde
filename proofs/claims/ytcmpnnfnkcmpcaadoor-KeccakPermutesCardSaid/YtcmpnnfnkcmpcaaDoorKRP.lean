/- The reference of layer 3: Permute. -/
import Derived.Test.YtcmpnnfnkcmpcaaDoorKRR
namespace Go.Proofs.YtcmpnnfnkcmpcaaDoor
open Go.RowKit

theorem ixA (B x : Nat) (h : x < 25) (w : World) : (Instr.indexAt 35 (.pointer (some ⟨B, 0, none⟩)) (.int .i64 (x : Nat))).run Tryd.prog w = .ok (.pointer (some ⟨B, x, none⟩)) w := by
  have h0 : (0 : Int) ≤ x := by omega
  have h1 : (x : Int) < 25 := by omega
  go_simp
theorem ixG (g c x : Nat) (h : x < 24) (w : World) : (Instr.indexAt 50 (.slice (some ⟨g, 0, none⟩) 24 c) (.int .i64 (x : Nat))).run Tryd.prog w = .ok (.pointer (some ⟨g, x, none⟩)) w := by
  have h0 : (0 : Int) ≤ x := by omega
  have h1 : (x : Int) < 24 := by omega
  go_simp
theorem infoA : (Tryd.prog.info? 35).map (·.size) = some 25 := by kernel_rfl
/-- The first i of s. -/
def fst' (s v : Nat → Int) (i j : Nat) : Int := if j < i then s j else v j
theorem fst_next (s v : Nat → Int) (i : Nat) : updI (fst' s v i) i (s i) = fst' s v (i + 1) := by
  funext j
  unfold updI fst'
  by_cases h : j = i
  · subst h; rw [if_pos rfl, if_pos (by omega)]
  · rw [if_neg h]
    by_cases h2 : j < i
    · rw [if_pos h2, if_pos (by omega)]
    · rw [if_neg h2, if_neg (by omega)]
theorem fst_0 (s v : Nat → Int) : fst' s v 0 = v := funext fun j => by unfold fst'; rw [if_neg (by omega)]
theorem fst_25 (s v : Nat → Int) (j : Nat) (h : j < 25) : fst' s v 25 j = s j := by unfold fst'; rw [if_pos h]
/-- The worlds of Permute: the argument's copy at S, the answer's place at S + 1, the constants at g, the state at A. -/
structure CF (w : World) (g A : Nat) (s v : Nat → Int) (wx : World) : Prop where
  old : Below w.heap.size w wx
  r0 : wx.heap[w.heap.size]? = some (.cells (ar .u64 25 s) 35 (0, 0))
  r1 : wx.heap[w.heap.size + 1]? = some (.cells #[.int .u64 0, .int .u64 0, .int .u64 0, .int .u64 0, .int .u64 0, .int .u64 0, .int .u64 0, .int .u64 0, .int .u64 0, .int .u64 0, .int .u64 0, .int .u64 0, .int .u64 0, .int .u64 0, .int .u64 0, .int .u64 0, .int .u64 0, .int .u64 0, .int .u64 0, .int .u64 0, .int .u64 0, .int .u64 0, .int .u64 0, .int .u64 0, .int .u64 0] 35 (0, 0))
  ra : wx.heap[A]? = some (.cells (ar .u64 25 (tp v)) 49 (0, 0))
  rc : ∀ t, t < 24 → wx.cell? ⟨g, t, none⟩ = some (.int .u64 (rcT t))
  hA : w.heap.size + 1 + 1 ≤ A
  hg : w.heap.size + 1 + 1 ≤ g
  ne : g ≠ A
section
variable {w wx w' : World} {g A : Nat} {s v : Nat → Int}
theorem CF.drew (h : CF w g A s v wx) : CF w g A s v wx.drew := ⟨h.old.drew, h.r0, h.r1, h.ra, h.rc, h.hA, h.hg, h.ne⟩
theorem CF.ldS (h : CF w g A s v wx) (x : Nat) (hx : x < 25) (z : Int) (hz : s x = z) : (Instr.loadAt 34 (.pointer (some ⟨w.heap.size, x, none⟩))).run Tryd.prog wx = .ok (.int .u64 z) wx :=
  kload _ _ _ _ (by rw [← hz]; exact (cell_of_row wx _ _ _ _ _ h.r0).trans (ar_at _ _ _ _ hx))
theorem CF.ldA (h : CF w g A s v wx) (x y : Nat) (hx : x < 5) (hy : y < 5) (z : Int) (hz : v (x + 5 * y) = z) : (Instr.loadAt 34 (.pointer (some ⟨A, 5 * x + y, none⟩))).run Tryd.prog wx = .ok (.int .u64 z) wx :=
  kload _ _ _ _ (by rw [← hz, ← tp_at v hy]; exact (cell_of_row wx _ _ _ _ _ h.ra).trans (ar_at _ _ _ _ (by omega)))
theorem CF.below (h : CF w g A s v wx) (hb : Below wx.heap.size wx w') : CF w g A s v w' := by
  have h1 := (Array.getElem?_eq_some_iff.1 h.ra).1
  have h2 := h.hA
  exact ⟨h.old.trans (hb.mono h.old.size), (hb.block _ (by omega)).trans h.r0, (hb.block _ (by omega)).trans h.r1, (hb.block _ (by omega)).trans h.ra,
    fun t ht => (hb.cell (p := ⟨g, t, none⟩) (block_lt_of_cell (h.rc t ht))).trans (h.rc t ht), h.hA, h.hg, h.ne⟩
theorem CF.setA (h : CF w g A s v wx) (x y : Nat) (hx : x < 5) (hy : y < 5) (z : Int) : CF w g A s (updI v (x + 5 * y) z) (wx.setCell ⟨A, 5 * x + y, none⟩ (.int .u64 z)) := by
  have h2 := h.hA
  exact ⟨h.old.setCell (by show w.heap.size ≤ A; omega) _, (heap_setCell_other _ _ _ _ (by show w.heap.size ≠ A; omega)).trans h.r0, (heap_setCell_other _ _ _ _ (by show w.heap.size + 1 ≠ A; omega)).trans h.r1, (heap_setCell_same _ _ _ _ _ _ h.ra).trans (by rw [tp_set v hx hy]),
    fun t ht => (World.cell?_of_block (w := wx) (heap_setCell_other _ _ _ _ (by show g ≠ A; exact h.ne))).trans (h.rc t ht), h.hA, h.hg, h.ne⟩
theorem CF.rowA (h : CF w g A s v wx) (u : Nat → Int) : CF w g A s u (wx.setRow A (ar .u64 25 (tp u))) := by
  have h2 := h.hA
  exact ⟨below_setRow h.old (by omega) _, (setRow_other _ _ _ _ (by omega)).trans h.r0, (setRow_other _ _ _ _ (by omega)).trans h.r1, setRow_heap _ _ _ _ _ _ h.ra,
    fun t ht => (World.cell?_of_block (w := wx) (setRow_other _ _ _ _ h.ne)).trans (h.rc t ht), h.hA, h.hg, h.ne⟩
theorem CF.setS (h : CF w g A s v wx) (x : Nat) (hx : x < 25) (z : Int) : CF w g A (updI s x z) v (wx.setCell ⟨w.heap.size, x, none⟩ (.int .u64 z)) := by
  have h2 := h.hA
  have h3 := h.hg
  exact ⟨h.old.setCell (Nat.le_refl _) _, (heap_setCell_same _ _ _ _ _ _ h.r0).trans (by rw [ar_set _ _ _ _ _ hx]), (heap_setCell_other _ _ _ _ (by show w.heap.size + 1 ≠ w.heap.size; omega)).trans h.r1, (heap_setCell_other _ _ _ _ (by show A ≠ w.heap.size; omega)).trans h.ra,
    fun t ht => (World.cell?_of_block (w := wx) (heap_setCell_other _ _ _ _ (by show g ≠ w.heap.size; omega))).trans (h.rc t ht), h.hA, h.hg, h.ne⟩
end
theorem krp_start {w w2 : World} {s : Nat → Int} {g c : Nat} (hown : w2.ownsRow (w.heap.size + 1 + 1) 34 1 (.slice (some ⟨g, 0, none⟩) 24 c) 24 (pi64 rcT 24)) (hb : Below (w.heap.size + 1 + 1) ((w.alloc (.cells (ar .u64 25 s) 35)).alloc (.cells #[.int .u64 0, .int .u64 0, .int .u64 0, .int .u64 0, .int .u64 0, .int .u64 0, .int .u64 0, .int .u64 0, .int .u64 0, .int .u64 0, .int .u64 0, .int .u64 0, .int .u64 0, .int .u64 0, .int .u64 0, .int .u64 0, .int .u64 0, .int .u64 0, .int .u64 0, .int .u64 0, .int .u64 0, .int .u64 0, .int .u64 0, .int .u64 0, .int .u64 0] 35)) w2) :
    (w2.alloc (.cells #[.int .u64 0, .int .u64 0, .int .u64 0, .int .u64 0, .int .u64 0, .int .u64 0, .int .u64 0, .int .u64 0, .int .u64 0, .int .u64 0, .int .u64 0, .int .u64 0, .int .u64 0, .int .u64 0, .int .u64 0, .int .u64 0, .int .u64 0, .int .u64 0, .int .u64 0, .int .u64 0, .int .u64 0, .int .u64 0, .int .u64 0, .int .u64 0, .int .u64 0] 49)).heap[w2.heap.size]? = some (.cells #[.int .u64 0, .int .u64 0, .int .u64 0, .int .u64 0, .int .u64 0, .int .u64 0, .int .u64 0, .int .u64 0, .int .u64 0, .int .u64 0, .int .u64 0, .int .u64 0, .int .u64 0, .int .u64 0, .int .u64 0, .int .u64 0, .int .u64 0, .int .u64 0, .int .u64 0, .int .u64 0, .int .u64 0, .int .u64 0, .int .u64 0, .int .u64 0, .int .u64 0] 49 (0, 0)) ∧ CF w g w2.heap.size s (fun _ => 0) ((w2.alloc (.cells #[.int .u64 0, .int .u64 0, .int .u64 0, .int .u64 0, .int .u64 0, .int .u64 0, .int .u64 0, .int .u64 0, .int .u64 0, .int .u64 0, .int .u64 0, .int .u64 0, .int .u64 0, .int .u64 0, .int .u64 0, .int .u64 0, .int .u64 0, .int .u64 0, .int .u64 0, .int .u64 0, .int .u64 0, .int .u64 0, .int .u64 0, .int .u64 0, .int .u64 0] 49)).setRow w2.heap.size (ar .u64 25 (tp fun _ => 0))) := by
  have h1 : (w2.alloc (.cells #[.int .u64 0, .int .u64 0, .int .u64 0, .int .u64 0, .int .u64 0, .int .u64 0, .int .u64 0, .int .u64 0, .int .u64 0, .int .u64 0, .int .u64 0, .int .u64 0, .int .u64 0, .int .u64 0, .int .u64 0, .int .u64 0, .int .u64 0, .int .u64 0, .int .u64 0, .int .u64 0, .int .u64 0, .int .u64 0, .int .u64 0, .int .u64 0, .int .u64 0] 49)).heap[w2.heap.size]? = some (.cells #[.int .u64 0, .int .u64 0, .int .u64 0, .int .u64 0, .int .u64 0, .int .u64 0, .int .u64 0, .int .u64 0, .int .u64 0, .int .u64 0, .int .u64 0, .int .u64 0, .int .u64 0, .int .u64 0, .int .u64 0, .int .u64 0, .int .u64 0, .int .u64 0, .int .u64 0, .int .u64 0, .int .u64 0, .int .u64 0, .int .u64 0, .int .u64 0, .int .u64 0] 49 (0, 0)) := heap_alloc_new _ _
  have hsz : w.heap.size + 1 + 1 ≤ w2.heap.size := by have := hb.size; simpa using this
  have hg := (hown.lt g rfl)
  have e0 := (hb.block w.heap.size (by omega)).trans ((heap_alloc_old _ _ (by simp)).trans (heap_alloc_new w (.cells (ar .u64 25 s) 35)))
  have e1 : w2.heap[w.heap.size + 1]? = some (.cells #[.int .u64 0, .int .u64 0, .int .u64 0, .int .u64 0, .int .u64 0, .int .u64 0, .int .u64 0, .int .u64 0, .int .u64 0, .int .u64 0, .int .u64 0, .int .u64 0, .int .u64 0, .int .u64 0, .int .u64 0, .int .u64 0, .int .u64 0, .int .u64 0, .int .u64 0, .int .u64 0, .int .u64 0, .int .u64 0, .int .u64 0, .int .u64 0, .int .u64 0] 35 (0, 0)) := by
    refine (hb.block (w.heap.size + 1) (by omega)).trans ?_
    have h := heap_alloc_new (w.alloc (.cells (ar .u64 25 s) 35)) (.cells #[.int .u64 0, .int .u64 0, .int .u64 0, .int .u64 0, .int .u64 0, .int .u64 0, .int .u64 0, .int .u64 0, .int .u64 0, .int .u64 0, .int .u64 0, .int .u64 0, .int .u64 0, .int .u64 0, .int .u64 0, .int .u64 0, .int .u64 0, .int .u64 0, .int .u64 0, .int .u64 0, .int .u64 0, .int .u64 0, .int .u64 0, .int .u64 0, .int .u64 0] 35)
    simpa using h
  have hold : Below w.heap.size w w2 := (by go_grown : Below w.heap.size w ((w.alloc (.cells (ar .u64 25 s) 35)).alloc (.cells #[.int .u64 0, .int .u64 0, .int .u64 0, .int .u64 0, .int .u64 0, .int .u64 0, .int .u64 0, .int .u64 0, .int .u64 0, .int .u64 0, .int .u64 0, .int .u64 0, .int .u64 0, .int .u64 0, .int .u64 0, .int .u64 0, .int .u64 0, .int .u64 0, .int .u64 0, .int .u64 0, .int .u64 0, .int .u64 0, .int .u64 0, .int .u64 0, .int .u64 0] 35))).trans (hb.mono (by omega))
  refine ⟨h1, below_setRow (hold.alloc (by omega) _) (by omega) _, (setRow_other _ _ _ _ (by omega)).trans ((heap_alloc_old _ _ (by omega)).trans e0), (setRow_other _ _ _ _ (by omega)).trans ((heap_alloc_old _ _ (by omega)).trans e1), setRow_heap _ _ _ _ _ _ h1, fun t ht => ?_, by omega, hg.1, by omega⟩
  refine (World.cell?_of_block (w := w2) ((setRow_other _ _ _ _ (by show g ≠ w2.heap.size; omega)).trans (heap_alloc_old _ _ (by show g < w2.heap.size; omega)))).trans ?_
  exact (hown.cellAt t (by omega)).trans (pi64_at rcT 24 t ht)
set_option maxRecDepth 100000 in
set_option maxHeartbeats 8000000 in
-- WHAT THE REFERENCE'S Permute COMES TO.
theorem krp (s : Nat → Int) (hv : ∀ i, i < 25 → 0 ≤ s i ∧ s i < 18446744073709551616) (w : World) : Calls Tryd.prog 16 #[.agg (ar .u64 25 s)] w fun e w' => e = .returned (.agg (ar .u64 25 (kpm rcT 24 s))) ∧ Below w.heap.size w w' := by
  have HV := Lib.hid hv; clear hv
  have HZ3 := Lib.hid z25_val
  have HI3 : Hid ((Tryd.prog.info? 49).map (·.size) = some (ar .u64 25 (tp fun _ => 0)).size) := Lib.hid (by rw [ar_size]; exact info25)
  have HI5 : ∀ f, Hid ((Tryd.prog.info? 49).map (·.size) = some (ar .u64 25 f).size) := fun f => Lib.hid (by rw [ar_size]; exact info25)
  have HIA : ∀ f, Hid ((Tryd.prog.info? 35).map (·.size) = some (ar .u64 25 f).size) := fun f => Lib.hid (by rw [ar_size]; exact infoA)
  go_enter Tryd.func16, Tryd.ntmps16
  go_wp2_with fail
  refine (consts_any _).mono ?_
  rintro e w2 ⟨g, c, rfl, hown, hb⟩
  have hs := krp_start (w := w) (s := s) (by simpa using hown) (by simpa using hb)
  have HR3 := Lib.hid hs.1
  have H0 := Lib.hid hs.2
  clear hown hb hs
  obtain ⟨A, hA⟩ : ∃ A, w2.heap.size = A := ⟨_, rfl⟩
  rw [hA] at HR3 H0
  go_wp2_with (refine wpList_store_row rfl 49 _ _ rfl A (ar .u64 25 (tp fun _ => 0)) rfl HZ3.out 49 _ HR3.out HI3.out (by rw [ar_size]; rfl) (ar_one _ _ _) ?_)
  clear HR3 HZ3 HI3
  go_loopw [5] (fun i wr => ∃ k : Nat, k ≤ 25 ∧ i = .int .i64 k ∧ Hid (CF w g A s (fst' s (fun _ => 0) k) wr)) (fun i _ => 25 - (intOf i).toNat)
  case atStart => exact ⟨0, by omega, rfl, by rw [fst_0]; exact H0⟩
  case round =>
    obtain ⟨i, hi, rfl, H⟩ := hrel
    clear H0 hA
    have hi0 : (0 : Int) ≤ i := by omega
    by_cases hlt : i < 25
    · have hlt' : (i : Int) < 25 := by omega
      obtain ⟨x, hx⟩ : ∃ x : Nat, i % 5 = x := ⟨_, rfl⟩
      obtain ⟨y, hy⟩ : ∃ x : Nat, i / 5 = x := ⟨_, rfl⟩
      have hx5 : x < 5 := by omega
      have hy5 : y < 5 := by omega
      have m1 : ∀ w, (binOp BinOp.rem 3 (.int .i64 (i : Nat)) (.int .i64 5)).run Tryd.prog w = .ok (.int .i64 (x : Nat)) w := by
        have e1 : (i : Int).tmod 5 = (x : Int) := by rw [Int.tmod_eq_emod_of_nonneg (by omega)]; omega
        have e2 : (i : Int) % 5 = (x : Int) := by omega
        have e3 : IntKind.i64.wrap (x : Int) = x := by rw [IntKind.wrap_i64]; omega
        intro w
        go_simp
      have m2 : ∀ w, (binOp BinOp.quo 3 (.int .i64 (i : Nat)) (.int .i64 5)).run Tryd.prog w = .ok (.int .i64 (y : Nat)) w := by
        have e1 : (i : Int).tdiv 5 = (y : Int) := by rw [Int.tdiv_eq_ediv_of_nonneg (by omega)]; omega
        have e0 : (i : Int) / 5 = (y : Int) := by omega
        have e2 : IntKind.i64.wrap (y : Int) = y := by rw [IntKind.wrap_i64]; omega
        intro w
        go_simp
      have M1 := Lib.hid m1
      have M2 := Lib.hid m2
      have HX := Lib.hid hx5
      have HY := Lib.hid hy5
      have HI := Lib.hid (show i < 25 by omega)
      clear m1 m2
      have HN := Lib.hid (show updI (fst' s (fun _ => 0) i) (x + 5 * y) (s i) = fst' s (fun _ => 0) (i + 1) from by rw [show x + 5 * y = i by omega]; exact fst_next _ _ _)
      obtain ⟨z, hz⟩ : ∃ z, s i = z := ⟨_, rfl⟩
      rw [hz] at HN
      have HZ := Lib.hid hz
      clear hz hx hy
      go_wp2_with fail
      refine region_quiet_tail 9 (CF w g A s (fst' s (fun _ => 0) i)) (by kernel_rfl) (by kernel_rfl) H.out.drew ?_
      simp only [List.take_succ_cons, List.take_zero, List.drop_succ_cons, List.drop_zero]
      with_reducible refine q_val (.int .i64 (i : Nat)) (by kernel_rfl) (fun _ _ => by kernel_rfl) ?_
      with_reducible refine q_v (binOp BinOp.rem 3 (.int .i64 (i : Nat)) (.int .i64 5)) (.int .i64 (x : Nat)) (by kernel_rfl) (by kernel_rfl) (fun wz _ => M1.out wz) ?_
      with_reducible refine q_val (.int .i64 (i : Nat)) (by kernel_rfl) (fun _ _ => by kernel_rfl) ?_
      with_reducible refine q_v (binOp BinOp.quo 3 (.int .i64 (i : Nat)) (.int .i64 5)) (.int .i64 (y : Nat)) (by kernel_rfl) (by kernel_rfl) (fun wz _ => M2.out wz) ?_
      with_reducible refine q_val (.int .i64 (i : Nat)) (by kernel_rfl) (fun _ _ => by kernel_rfl) ?_
      with_reducible refine q_v (Instr.indexAt 35 (.pointer (some ⟨w.heap.size, 0, none⟩)) (.int .i64 (i : Nat))) (.pointer (some ⟨w.heap.size, i, none⟩)) (by kernel_rfl) (by kernel_rfl) (fun wz _ => ixA (w.heap.size) i HI.out wz) ?_
      with_reducible refine q_load 34 (.tmp 19) (.pointer (some ⟨w.heap.size, i, none⟩)) (.int .u64 z) rfl (by kernel_rfl) (by kernel_rfl) (fun _ h => h.ldS i HI.out _ HZ.out) ?_
      with_reducible refine q_v (Instr.indexAt 49 (.pointer (some ⟨A, 0, none⟩)) (.int .i64 (x : Nat))) (.pointer (some ⟨A, 5 * x, none⟩)) (by kernel_rfl) (by kernel_rfl) (fun wz _ => ix25 (A) x HX.out wz) ?_
      with_reducible refine q_v (Instr.indexAt 48 (.pointer (some ⟨A, 5 * x, none⟩)) (.int .i64 (y : Nat))) (.pointer (some ⟨A, 5 * x + y, none⟩)) (by kernel_rfl) (by kernel_rfl) (fun wz _ => ix5 (A) (5 * x) y HY.out wz) ?_
      with_reducible refine wpQuiet_nil ?_
      intro w1 hCx
      simp only [Act.put, List.setIfInBounds_toArray, List.set_cons_succ, List.set_cons_zero]
      have hsa := hCx.setA x y HX.out HY.out z
      have co := (cell_of_row w1 _ (5 * x + y) _ _ _ hCx.ra).trans (ar_at _ _ _ _ (by omega))
      have fo := frozen_of_row _ _ (5 * x + y) _ _ hCx.ra
      rw [HN.out] at hsa
      have H2 := Lib.hid hsa
      clear hCx H hsa
      go_wp2_with fail
      go_roundw
      case rel => exact ⟨i + 1, by omega, by go_num, H2⟩
      case measure => simp [intOf]; omega
    · obtain rfl : i = 25 := by omega
      have H1 := Lib.hid (show CF w g A s (kpm rcT 0 s) wr from ⟨H.out.old, H.out.r0, H.out.r1, by have e := H.out.ra; rw [tp_congr (fst_25 s (fun _ => 0))] at e; exact e, H.out.rc, H.out.hA, H.out.hg, H.out.ne⟩)
      clear H
      rw [show ((25 : Nat) : Int) = 25 from rfl]
      go_wp2_with fail
      go_loopw [6] (fun i wr => ∃ k : Nat, k ≤ 24 ∧ i = .int .i64 k ∧ Hid (CF w g A s (kpm rcT k s) wr)) (fun i _ => 24 - (intOf i).toNat)
      case atStart => exact ⟨0, by omega, rfl, H1⟩
      case round =>
        obtain ⟨k, hk, rfl, H⟩ := hrel
        clear H1
        have hk0 : (0 : Int) ≤ k := by omega
        by_cases hlk : k < 24
        · have hlk' : (k : Int) < 24 := by omega
          have HK := Lib.hid hlk
          obtain ⟨v, hv⟩ : ∃ v, kpm rcT k s = v := ⟨_, rfl⟩
          have HR := Lib.hid (krr v (fun i hi => by rw [← hv]; exact kpm_rng rcT k HV.out i hi))
          obtain ⟨c0, hc0⟩ : ∃ c, rcT k = c := ⟨_, rfl⟩
          have HN := Lib.hid (show updI (kch (kmv (kth v))) (0 + 5 * 0) (bits .xor .u64 (kch (kmv (kth v)) 0) c0) = kpm rcT (k + 1) s from by rw [← hv, ← hc0]; rfl)
          have HC := Lib.hid (show ∀ u wx, CF w g A s u wx → wx.cell? ⟨g, k, none⟩ = some (.int .u64 c0) from fun u wx h => by rw [← hc0]; exact h.rc k HK.out)
          obtain ⟨u, hu⟩ : ∃ u, kch (kmv (kth v)) = u := ⟨_, rfl⟩
          rw [hu] at HR HN
          rw [hv] at H
          clear hv hc0 hu
          obtain ⟨a, ha⟩ : ∃ a, tp v = a := ⟨_, rfl⟩
          obtain ⟨b, hb⟩ : ∃ a, tp u = a := ⟨_, rfl⟩
          have HA := Lib.hid (show wr.heap[A]? = some (.cells (ar .u64 25 a) 49 (0, 0)) from by rw [← ha]; exact H.out.ra)
          rw [ha, hb] at HR
          have HB := Lib.hid hb
          clear ha hb
          go_wp2_with (refine wpList_load_row rfl 49 _ rfl A rfl 49 (ar .u64 25 a) (0, 0) _ HA.out Tryd.underlying49 rfl (HI5 a).out ?_)
          refine (HR.out _).mono ?_
          rintro e w3 ⟨rfl, hbl⟩
          have H3 := Lib.hid (H.out.below hbl)
          clear hbl H HA HR
          have H4 := Lib.hid (H3.out.rowA u)
          rw [HB.out] at H4
          have HA3 := Lib.hid H3.out.ra
          clear H3
          go_wp2_with (refine wpList_store_row rfl 49 _ _ rfl A (ar .u64 25 b) rfl rfl 49 _ HA3.out (HI5 b).out (by rw [ar_size, ar_size]) (ar_one _ _ _) ?_)
          clear HA3
          refine region_quiet_tail 10 (CF w g A s u) (by kernel_rfl) (by kernel_rfl) H4.out.drew ?_
          simp only [List.take_succ_cons, List.take_zero, List.drop_succ_cons, List.drop_zero]
          with_reducible refine q_val (.pointer (some ⟨A, 0, none⟩)) (by kernel_rfl) (fun _ _ => by kernel_rfl) ?_
          with_reducible refine q_val (.pointer (some ⟨A, 0, none⟩)) (by kernel_rfl) (fun _ _ => by kernel_rfl) ?_
          with_reducible refine q_load 34 (.tmp 30) (.pointer (some ⟨A, 0, none⟩)) (.int .u64 (u 0)) rfl (by kernel_rfl) (by kernel_rfl) (fun _ h => h.ldA 0 0 (by decide) (by decide) _ rfl) ?_
          with_reducible refine q_val (.slice (some ⟨g, 0, none⟩) 24 c) (by kernel_rfl) (fun _ _ => by kernel_rfl) ?_
          with_reducible refine q_val (.int .i64 (k : Nat)) (by kernel_rfl) (fun _ _ => by kernel_rfl) ?_
          with_reducible refine q_v (Instr.indexAt 50 (.slice (some ⟨g, 0, none⟩) 24 c) (.int .i64 (k : Nat))) (.pointer (some ⟨g, k, none⟩)) (by kernel_rfl) (by kernel_rfl) (fun wz _ => ixG g c k HK.out wz) ?_
          with_reducible refine q_load 34 (.tmp 34) (.pointer (some ⟨g, k, none⟩)) (.int .u64 c0) rfl (by kernel_rfl) (by kernel_rfl) (fun _ h => kload _ _ _ _ (HC.out _ _ h)) ?_
          with_reducible refine q_val (.int .u64 (bits .xor .u64 (u 0) c0)) (by kernel_rfl) (fun _ _ => by kernel_rfl) ?_
          with_reducible refine q_val (.pointer (some ⟨A, 0, none⟩)) (by kernel_rfl) (fun _ _ => by kernel_rfl) ?_
          with_reducible refine q_val (.pointer (some ⟨A, 0, none⟩)) (by kernel_rfl) (fun _ _ => by kernel_rfl) ?_
          with_reducible refine wpQuiet_nil ?_
          intro w1 hCx
          simp only [Act.put, List.setIfInBounds_toArray, List.set_cons_succ, List.set_cons_zero]
          have hsa := hCx.setA 0 0 (by decide) (by decide) (bits .xor .u64 (u 0) c0)
          have co := (cell_of_row w1 _ 0 _ _ _ hCx.ra).trans (ar_at _ _ _ _ (by decide))
          have fo := frozen_of_row _ _ 0 _ _ hCx.ra
          rw [HN.out] at hsa
          have H2 := Lib.hid hsa
          clear hCx H4 hsa
          go_wp2_with fail
          go_roundw
          case rel => exact ⟨k + 1, by omega, by go_num, H2⟩
          case measure => simp [intOf]; omega
        · obtain rfl : k = 24 := by omega
          obtain ⟨v, hv⟩ : ∃ v, kpm rcT 24 s = v := ⟨_, rfl⟩
          have HW := Lib.hid hv
          rw [hv] at H
          clear hv
          have H1 := Lib.hid (show CF w g A (fst' v s 0) v wr from by rw [fst_0]; exact H.out)
          clear H
          rw [show ((24 : Nat) : Int) = 24 from rfl]
          go_wp2_with fail
          go_loopw [7] (fun i wr => ∃ k : Nat, k ≤ 25 ∧ i = .int .i64 k ∧ Hid (CF w g A (fst' v s k) v wr)) (fun i _ => 25 - (intOf i).toNat)
          case atStart => exact ⟨0, by omega, rfl, H1⟩
          case round =>
            obtain ⟨i, hi, rfl, H⟩ := hrel
            clear H1
            have hi0 : (0 : Int) ≤ i := by omega
            by_cases hlt : i < 25
            · have hlt' : (i : Int) < 25 := by omega
              obtain ⟨x, hx⟩ : ∃ x : Nat, i % 5 = x := ⟨_, rfl⟩
              obtain ⟨y, hy⟩ : ∃ x : Nat, i / 5 = x := ⟨_, rfl⟩
              have hx5 : x < 5 := by omega
              have hy5 : y < 5 := by omega
              have m1 : ∀ w, (binOp BinOp.rem 3 (.int .i64 (i : Nat)) (.int .i64 5)).run Tryd.prog w = .ok (.int .i64 (x : Nat)) w := by
                have e1 : (i : Int).tmod 5 = (x : Int) := by rw [Int.tmod_eq_emod_of_nonneg (by omega)]; omega
                have e2 : (i : Int) % 5 = (x : Int) := by omega
                have e3 : IntKind.i64.wrap (x : Int) = x := by rw [IntKind.wrap_i64]; omega
                intro w
                go_simp
              have m2 : ∀ w, (binOp BinOp.quo 3 (.int .i64 (i : Nat)) (.int .i64 5)).run Tryd.prog w = .ok (.int .i64 (y : Nat)) w := by
                have e1 : (i : Int).tdiv 5 = (y : Int) := by rw [Int.tdiv_eq_ediv_of_nonneg (by omega)]; omega
                have e0 : (i : Int) / 5 = (y : Int) := by omega
                have e2 : IntKind.i64.wrap (y : Int) = y := by rw [IntKind.wrap_i64]; omega
                intro w
                go_simp
              have M1 := Lib.hid m1
              have M2 := Lib.hid m2
              have HX := Lib.hid hx5
              have HY := Lib.hid hy5
              have HI := Lib.hid (show i < 25 by omega)
              clear m1 m2
              have HN := Lib.hid (fst_next v s i)
              obtain ⟨z, hz⟩ : ∃ z, v i = z := ⟨_, rfl⟩
              rw [hz] at HN
              have HZ := Lib.hid (show v (x + 5 * y) = z from by rw [show x + 5 * y = i by omega]; exact hz)
              have d1 : (i : Int) % 5 = (x : Int) := by omega
              have d2 : (i : Int) / 5 = (y : Int) := by omega
              have i1 := ix25 A x hx5
              have i2 := ix5 A (5 * x) y hy5
              have i3 := ixA w.heap.size i HI.out
              have cl : wr.cell? ⟨A, 5 * x + y, none⟩ = some (.int .u64 z) := by
                rw [← HZ.out, ← tp_at v hy5]
                exact (cell_of_row wr _ _ _ _ _ H.out.ra).trans (ar_at _ _ _ _ (by omega))
              have co := (cell_of_row wr _ i _ _ _ H.out.r0).trans (ar_at _ _ _ _ HI.out)
              have fo := frozen_of_row _ _ i _ _ H.out.r0
              have hsa := H.out.setS i HI.out z
              rw [HN.out] at hsa
              have H2 := Lib.hid hsa
              clear hz hx hy hsa
              go_wp2_with fail
              go_roundw
              case rel => exact ⟨i + 1, by omega, by go_num, H2⟩
              case measure => simp [intOf]; omega
            · obtain rfl : i = 25 := by omega
              have h0 := H.out.r0
              rw [ar_congr (fst_25 v s)] at h0
              have HB := Lib.hid (And.intro H.out.old (And.intro h0 H.out.r1))
              clear h0 H
              go_wp2_with (first | (refine wpList_load_row rfl 35 _ rfl w.heap.size rfl 35 _ (0, 0) _ HB.out.2.1 Tryd.underlying35 rfl (HIA v).out ?_) | (refine wpList_store_row rfl 35 _ _ rfl (w.heap.size + 1) (ar .u64 25 v) rfl rfl 35 _ HB.out.2.2 (HIA v).out (by rw [ar_size]; rfl) (ar_one _ _ _) ?_))
              refine bodyPost_ret (v := .agg (ar .u64 25 v)) (results_cell_row (p := 2) rfl _ _ (w.heap.size + 1) 35 _ (0, 0) _ rfl (setRow_heap _ _ _ _ _ _ HB.out.2.2) Tryd.underlying35 rfl (HIA v).out) rfl ⟨by rw [HW.out], below_setRow HB.out.1 (by omega) _⟩
end Go.Proofs.YtcmpnnfnkcmpcaaDoor

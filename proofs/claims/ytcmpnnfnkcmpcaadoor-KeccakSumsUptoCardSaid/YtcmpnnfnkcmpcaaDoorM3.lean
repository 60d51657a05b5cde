/- Arrays of integers and bytes among the arguments, opened; what a bound on what is read says; a witness's world with the tables laid. (With it, merged: KRP · KBy · KSpo · KSum · KLiv · KEq · KLaid · KOpen.) -/
import Derived.Test.YtcmpnnfnkcmpcaaDoorM2
import Derived.Test.YtcmpnnfnkcmpcaaDoorM1
import Derived.Laws.AppendOwnNone
import Derived.Lib.AppendZeros
import Derived.Lib.SliceRun
import Derived.StillTailTactics
import Derived.StillTactics
import Derived.Test.YtcmpnnfnkcmpcaaDoorRows
import Derived.Lib.LaidTab
import Derived.Test.YtcmpnnfnkcmpcaaDoorCards
import Derived.Test.YtcmpnnfnkcmpcaaDoorTie
import Derived.WalkKit
import Derived.ProofKit
import Derived.OpenShut
import Derived.ChangeSlices
import Derived.Deep.DeepHandedRow
namespace Go.Proofs.YtcmpnnfnkcmpcaaDoor
open Go.RowKit

theorem ixA (B x : Nat) (h : x < 25) (w : World) : (Instr.indexAt 35 (.pointer (some ⟨B, 0, none⟩)) (.int .i64 (x : Nat))).run Tryd.prog w = .ok (.pointer (some ⟨B, x, none⟩)) w := by
  have h0 : (0 : Int) ≤ x := by omega
  have h1 : (x : Int) < 25 := by omega
  go_simp
theorem ixG (g c x : Nat) (h : x < 24) (w : World) : (Instr.indexAt 50 (.slice (some ⟨g, 0, none⟩) 24 c) (.int .i64 (x : Nat))).run Tryd.prog w = .ok (.pointer (some ⟨g, x, none⟩)) w := by
  have h0 : (0 : Int) ≤ x := by omega
  have h1 : (x : Int) < 24 := by omega
  go_simp
theorem infoA : (Tryd.prog.info? 35).map (·.size) = some 25 := by kernel_rfl
/-- The first i of s. -/
def fst' (s v : Nat → Int) (i j : Nat) : Int := if j < i then s j else v j
theorem fst_next (s v : Nat → Int) (i : Nat) : updI (fst' s v i) i (s i) = fst' s v (i + 1) := by
  funext j
  unfold updI fst'
  by_cases h : j = i
  · subst h; rw [if_pos rfl, if_pos (by omega)]
  · rw [if_neg h]
    by_cases h2 : j < i
    · rw [if_pos h2, if_pos (by omega)]
    · rw [if_neg h2, if_neg (by omega)]
theorem fst_0 (s v : Nat → Int) : fst' s v 0 = v := funext fun j => by unfold fst'; rw [if_neg (by omega)]
theorem fst_25 (s v : Nat → Int) (j : Nat) (h : j < 25) : fst' s v 25 j = s j := by unfold fst'; rw [if_pos h]
/-- The worlds of Permute: the argument's copy at S, the answer's place at S + 1, the constants at g, the state at A. -/
structure CF (w : World) (g A : Nat) (s v : Nat → Int) (wx : World) : Prop where
  old : Below w.heap.size w wx
  r0 : wx.heap[w.heap.size]? = some (.cells (ar .u64 25 s) 35 (0, 0))
  r1 : wx.heap[w.heap.size + 1]? = some (.cells #[.int .u64 0, .int .u64 0, .int .u64 0, .int .u64 0, .int .u64 0, .int .u64 0, .int .u64 0, .int .u64 0, .int .u64 0, .int .u64 0, .int .u64 0, .int .u64 0, .int .u64 0, .int .u64 0, .int .u64 0, .int .u64 0, .int .u64 0, .int .u64 0, .int .u64 0, .int .u64 0, .int .u64 0, .int .u64 0, .int .u64 0, .int .u64 0, .int .u64 0] 35 (0, 0))
  ra : wx.heap[A]? = some (.cells (ar .u64 25 (tp v)) 49 (0, 0))
  rc : ∀ t, t < 24 → wx.cell? ⟨g, t, none⟩ = some (.int .u64 (rcT t))
  hA : w.heap.size + 1 + 1 ≤ A
  hg : w.heap.size + 1 + 1 ≤ g
  ne : g ≠ A
section
variable {w wx w' : World} {g A : Nat} {s v : Nat → Int}
theorem CF.drew (h : CF w g A s v wx) : CF w g A s v wx.drew := ⟨h.old.drew, h.r0, h.r1, h.ra, h.rc, h.hA, h.hg, h.ne⟩
theorem CF.ldS (h : CF w g A s v wx) (x : Nat) (hx : x < 25) (z : Int) (hz : s x = z) : (Instr.loadAt 34 (.pointer (some ⟨w.heap.size, x, none⟩))).run Tryd.prog wx = .ok (.int .u64 z) wx :=
  kload _ _ _ _ (by rw [← hz]; exact (cell_of_row wx _ _ _ _ _ h.r0).trans (ar_at _ _ _ _ hx))
theorem CF.ldA (h : CF w g A s v wx) (x y : Nat) (hx : x < 5) (hy : y < 5) (z : Int) (hz : v (x + 5 * y) = z) : (Instr.loadAt 34 (.pointer (some ⟨A, 5 * x + y, none⟩))).run Tryd.prog wx = .ok (.int .u64 z) wx :=
  kload _ _ _ _ (by rw [← hz, ← tp_at v hy]; exact (cell_of_row wx _ _ _ _ _ h.ra).trans (ar_at _ _ _ _ (by omega)))
theorem CF.below (h : CF w g A s v wx) (hb : Below wx.heap.size wx w') : CF w g A s v w' := by
  have h1 := (Array.getElem?_eq_some_iff.1 h.ra).1
  have h2 := h.hA
  exact ⟨h.old.trans (hb.mono h.old.size), (hb.block _ (by omega)).trans h.r0, (hb.block _ (by omega)).trans h.r1, (hb.block _ (by omega)).trans h.ra,
    fun t ht => (hb.cell (p := ⟨g, t, none⟩) (block_lt_of_cell (h.rc t ht))).trans (h.rc t ht), h.hA, h.hg, h.ne⟩
theorem CF.setA (h : CF w g A s v wx) (x y : Nat) (hx : x < 5) (hy : y < 5) (z : Int) : CF w g A s (updI v (x + 5 * y) z) (wx.setCell ⟨A, 5 * x + y, none⟩ (.int .u64 z)) := by
  have h2 := h.hA
  exact ⟨h.old.setCell (by show w.heap.size ≤ A; omega) _, (heap_setCell_other _ _ _ _ (by show w.heap.size ≠ A; omega)).trans h.r0, (heap_setCell_other _ _ _ _ (by show w.heap.size + 1 ≠ A; omega)).trans h.r1, (heap_setCell_same _ _ _ _ _ _ h.ra).trans (by rw [tp_set v hx hy]),
    fun t ht => (World.cell?_of_block (w := wx) (heap_setCell_other _ _ _ _ (by show g ≠ A; exact h.ne))).trans (h.rc t ht), h.hA, h.hg, h.ne⟩
theorem CF.rowA (h : CF w g A s v wx) (u : Nat → Int) : CF w g A s u (wx.setRow A (ar .u64 25 (tp u))) := by
  have h2 := h.hA
  exact ⟨below_setRow h.old (by omega) _, (setRow_other _ _ _ _ (by omega)).trans h.r0, (setRow_other _ _ _ _ (by omega)).trans h.r1, setRow_heap _ _ _ _ _ _ h.ra,
    fun t ht => (World.cell?_of_block (w := wx) (setRow_other _ _ _ _ h.ne)).trans (h.rc t ht), h.hA, h.hg, h.ne⟩
theorem CF.setS (h : CF w g A s v wx) (x : Nat) (hx : x < 25) (z : Int) : CF w g A (updI s x z) v (wx.setCell ⟨w.heap.size, x, none⟩ (.int .u64 z)) := by
  have h2 := h.hA
  have h3 := h.hg
  exact ⟨h.old.setCell (Nat.le_refl _) _, (heap_setCell_same _ _ _ _ _ _ h.r0).trans (by rw [ar_set _ _ _ _ _ hx]), (heap_setCell_other _ _ _ _ (by show w.heap.size + 1 ≠ w.heap.size; omega)).trans h.r1, (heap_setCell_other _ _ _ _ (by show A ≠ w.heap.size; omega)).trans h.ra,
    fun t ht => (World.cell?_of_block (w := wx) (heap_setCell_other _ _ _ _ (by show g ≠ w.heap.size; omega))).trans (h.rc t ht), h.hA, h.hg, h.ne⟩
end
theorem krp_start {w w2 : World} {s : Nat → Int} {g c : Nat} (hown : w2.ownsRow (w.heap.size + 1 + 1) 34 1 (.slice (some ⟨g, 0, none⟩) 24 c) 24 (pi64 rcT 24)) (hb : Below (w.heap.size + 1 + 1) ((w.alloc (.cells (ar .u64 25 s) 35)).alloc (.cells #[.int .u64 0, .int .u64 0, .int .u64 0, .int .u64 0, .int .u64 0, .int .u64 0, .int .u64 0, .int .u64 0, .int .u64 0, .int .u64 0, .int .u64 0, .int .u64 0, .int .u64 0, .int .u64 0, .int .u64 0, .int .u64 0, .int .u64 0, .int .u64 0, .int .u64 0, .int .u64 0, .int .u64 0, .int .u64 0, .int .u64 0, .int .u64 0, .int .u64 0] 35)) w2) :
    (w2.alloc (.cells #[.int .u64 0, .int .u64 0, .int .u64 0, .int .u64 0, .int .u64 0, .int .u64 0, .int .u64 0, .int .u64 0, .int .u64 0, .int .u64 0, .int .u64 0, .int .u64 0, .int .u64 0, .int .u64 0, .int .u64 0, .int .u64 0, .int .u64 0, .int .u64 0, .int .u64 0, .int .u64 0, .int .u64 0, .int .u64 0, .int .u64 0, .int .u64 0, .int .u64 0] 49)).heap[w2.heap.size]? = some (.cells #[.int .u64 0, .int .u64 0, .int .u64 0, .int .u64 0, .int .u64 0, .int .u64 0, .int .u64 0, .int .u64 0, .int .u64 0, .int .u64 0, .int .u64 0, .int .u64 0, .int .u64 0, .int .u64 0, .int .u64 0, .int .u64 0, .int .u64 0, .int .u64 0, .int .u64 0, .int .u64 0, .int .u64 0, .int .u64 0, .int .u64 0, .int .u64 0, .int .u64 0] 49 (0, 0)) ∧ CF w g w2.heap.size s (fun _ => 0) ((w2.alloc (.cells #[.int .u64 0, .int .u64 0, .int .u64 0, .int .u64 0, .int .u64 0, .int .u64 0, .int .u64 0, .int .u64 0, .int .u64 0, .int .u64 0, .int .u64 0, .int .u64 0, .int .u64 0, .int .u64 0, .int .u64 0, .int .u64 0, .int .u64 0, .int .u64 0, .int .u64 0, .int .u64 0, .int .u64 0, .int .u64 0, .int .u64 0, .int .u64 0, .int .u64 0] 49)).setRow w2.heap.size (ar .u64 25 (tp fun _ => 0))) := by
  have h1 : (w2.alloc (.cells #[.int .u64 0, .int .u64 0, .int .u64 0, .int .u64 0, .int .u64 0, .int .u64 0, .int .u64 0, .int .u64 0, .int .u64 0, .int .u64 0, .int .u64 0, .int .u64 0, .int .u64 0, .int .u64 0, .int .u64 0, .int .u64 0, .int .u64 0, .int .u64 0, .int .u64 0, .int .u64 0, .int .u64 0, .int .u64 0, .int .u64 0, .int .u64 0, .int .u64 0] 49)).heap[w2.heap.size]? = some (.cells #[.int .u64 0, .int .u64 0, .int .u64 0, .int .u64 0, .int .u64 0, .int .u64 0, .int .u64 0, .int .u64 0, .int .u64 0, .int .u64 0, .int .u64 0, .int .u64 0, .int .u64 0, .int .u64 0, .int .u64 0, .int .u64 0, .int .u64 0, .int .u64 0, .int .u64 0, .int .u64 0, .int .u64 0, .int .u64 0, .int .u64 0, .int .u64 0, .int .u64 0] 49 (0, 0)) := heap_alloc_new _ _
  have hsz : w.heap.size + 1 + 1 ≤ w2.heap.size := by have := hb.size; simpa using this
  have hg := (hown.lt g rfl)
  have e0 := (hb.block w.heap.size (by omega)).trans ((heap_alloc_old _ _ (by simp)).trans (heap_alloc_new w (.cells (ar .u64 25 s) 35)))
  have e1 : w2.heap[w.heap.size + 1]? = some (.cells #[.int .u64 0, .int .u64 0, .int .u64 0, .int .u64 0, .int .u64 0, .int .u64 0, .int .u64 0, .int .u64 0, .int .u64 0, .int .u64 0, .int .u64 0, .int .u64 0, .int .u64 0, .int .u64 0, .int .u64 0, .int .u64 0, .int .u64 0, .int .u64 0, .int .u64 0, .int .u64 0, .int .u64 0, .int .u64 0, .int .u64 0, .int .u64 0, .int .u64 0] 35 (0, 0)) := by
    refine (hb.block (w.heap.size + 1) (by omega)).trans ?_
    have h := heap_alloc_new (w.alloc (.cells (ar .u64 25 s) 35)) (.cells #[.int .u64 0, .int .u64 0, .int .u64 0, .int .u64 0, .int .u64 0, .int .u64 0, .int .u64 0, .int .u64 0, .int .u64 0, .int .u64 0, .int .u64 0, .int .u64 0, .int .u64 0, .int .u64 0, .int .u64 0, .int .u64 0, .int .u64 0, .int .u64 0, .int .u64 0, .int .u64 0, .int .u64 0, .int .u64 0, .int .u64 0, .int .u64 0, .int .u64 0] 35)
    simpa using h
  have hold : Below w.heap.size w w2 := (by go_grown : Below w.heap.size w ((w.alloc (.cells (ar .u64 25 s) 35)).alloc (.cells #[.int .u64 0, .int .u64 0, .int .u64 0, .int .u64 0, .int .u64 0, .int .u64 0, .int .u64 0, .int .u64 0, .int .u64 0, .int .u64 0, .int .u64 0, .int .u64 0, .int .u64 0, .int .u64 0, .int .u64 0, .int .u64 0, .int .u64 0, .int .u64 0, .int .u64 0, .int .u64 0, .int .u64 0, .int .u64 0, .int .u64 0, .int .u64 0, .int .u64 0] 35))).trans (hb.mono (by omega))
  refine ⟨h1, below_setRow (hold.alloc (by omega) _) (by omega) _, (setRow_other _ _ _ _ (by omega)).trans ((heap_alloc_old _ _ (by omega)).trans e0), (setRow_other _ _ _ _ (by omega)).trans ((heap_alloc_old _ _ (by omega)).trans e1), setRow_heap _ _ _ _ _ _ h1, fun t ht => ?_, by omega, hg.1, by omega⟩
  refine (World.cell?_of_block (w := w2) ((setRow_other _ _ _ _ (by show g ≠ w2.heap.size; omega)).trans (heap_alloc_old _ _ (by show g < w2.heap.size; omega)))).trans ?_
  exact (hown.cellAt t (by omega)).trans (pi64_at rcT 24 t ht)
set_option maxRecDepth 100000 in
set_option maxHeartbeats 8000000 in
-- WHAT THE REFERENCE'S Permute COMES TO.
theorem krp (s : Nat → Int) (hv : ∀ i, i < 25 → 0 ≤ s i ∧ s i < 18446744073709551616) (w : World) : Calls Tryd.prog 16 #[.agg (ar .u64 25 s)] w fun e w' => e = .returned (.agg (ar .u64 25 (kpm rcT 24 s))) ∧ Below w.heap.size w w' := by
  have HV := Lib.hid hv; clear hv
  have HZ3 := Lib.hid z25_val
  have HI3 : Hid ((Tryd.prog.info? 49).map (·.size) = some (ar .u64 25 (tp fun _ => 0)).size) := Lib.hid (by rw [ar_size]; exact info25)
  have HI5 : ∀ f, Hid ((Tryd.prog.info? 49).map (·.size) = some (ar .u64 25 f).size) := fun f => Lib.hid (by rw [ar_size]; exact info25)
  have HIA : ∀ f, Hid ((Tryd.prog.info? 35).map (·.size) = some (ar .u64 25 f).size) := fun f => Lib.hid (by rw [ar_size]; exact infoA)
  go_enter Tryd.func16, Tryd.ntmps16
  go_wp2_with fail
  refine (consts_any _).mono ?_
  rintro e w2 ⟨g, c, rfl, hown, hb⟩
  have hs := krp_start (w := w) (s := s) (by simpa using hown) (by simpa using hb)
  have HR3 := Lib.hid hs.1
  have H0 := Lib.hid hs.2
  clear hown hb hs
  obtain ⟨A, hA⟩ : ∃ A, w2.heap.size = A := ⟨_, rfl⟩
  rw [hA] at HR3 H0
  go_wp2_with (refine wpList_store_row rfl 49 _ _ rfl A (ar .u64 25 (tp fun _ => 0)) rfl HZ3.out 49 _ HR3.out HI3.out (by rw [ar_size]; rfl) (ar_one _ _ _) ?_)
  clear HR3 HZ3 HI3
  go_loopw [5] (fun i wr => ∃ k : Nat, k ≤ 25 ∧ i = .int .i64 k ∧ Hid (CF w g A s (fst' s (fun _ => 0) k) wr)) (fun i _ => 25 - (intOf i).toNat)
  case atStart => exact ⟨0, by omega, rfl, by rw [fst_0]; exact H0⟩
  case round =>
    obtain ⟨i, hi, rfl, H⟩ := hrel
    clear H0 hA
    have hi0 : (0 : Int) ≤ i := by omega
    by_cases hlt : i < 25
    · have hlt' : (i : Int) < 25 := by omega
      obtain ⟨x, hx⟩ : ∃ x : Nat, i % 5 = x := ⟨_, rfl⟩
      obtain ⟨y, hy⟩ : ∃ x : Nat, i / 5 = x := ⟨_, rfl⟩
      have hx5 : x < 5 := by omega
      have hy5 : y < 5 := by omega
      have m1 : ∀ w, (binOp BinOp.rem 3 (.int .i64 (i : Nat)) (.int .i64 5)).run Tryd.prog w = .ok (.int .i64 (x : Nat)) w := by
        have e1 : (i : Int).tmod 5 = (x : Int) := by rw [Int.tmod_eq_emod_of_nonneg (by omega)]; omega
        have e2 : (i : Int) % 5 = (x : Int) := by omega
        have e3 : IntKind.i64.wrap (x : Int) = x := by rw [IntKind.wrap_i64]; omega
        intro w
        go_simp
      have m2 : ∀ w, (binOp BinOp.quo 3 (.int .i64 (i : Nat)) (.int .i64 5)).run Tryd.prog w = .ok (.int .i64 (y : Nat)) w := by
        have e1 : (i : Int).tdiv 5 = (y : Int) := by rw [Int.tdiv_eq_ediv_of_nonneg (by omega)]; omega
        have e0 : (i : Int) / 5 = (y : Int) := by omega
        have e2 : IntKind.i64.wrap (y : Int) = y := by rw [IntKind.wrap_i64]; omega
        intro w
        go_simp
      have M1 := Lib.hid m1
      have M2 := Lib.hid m2
      have HX := Lib.hid hx5
      have HY := Lib.hid hy5
      have HI := Lib.hid (show i < 25 by omega)
      clear m1 m2
      have HN := Lib.hid (show updI (fst' s (fun _ => 0) i) (x + 5 * y) (s i) = fst' s (fun _ => 0) (i + 1) from by rw [show x + 5 * y = i by omega]; exact fst_next _ _ _)
      obtain ⟨z, hz⟩ : ∃ z, s i = z := ⟨_, rfl⟩
      rw [hz] at HN
      have HZ := Lib.hid hz
      clear hz hx hy
      go_wp2_with fail
      refine region_quiet_tail 9 (CF w g A s (fst' s (fun _ => 0) i)) (by kernel_rfl) (by kernel_rfl) H.out.drew ?_
      simp only [List.take_succ_cons, List.take_zero, List.drop_succ_cons, List.drop_zero]
      with_reducible refine q_val (.int .i64 (i : Nat)) (by kernel_rfl) (fun _ _ => by kernel_rfl) ?_
      with_reducible refine q_v (binOp BinOp.rem 3 (.int .i64 (i : Nat)) (.int .i64 5)) (.int .i64 (x : Nat)) (by kernel_rfl) (by kernel_rfl) (fun wz _ => M1.out wz) ?_
      with_reducible refine q_val (.int .i64 (i : Nat)) (by kernel_rfl) (fun _ _ => by kernel_rfl) ?_
      with_reducible refine q_v (binOp BinOp.quo 3 (.int .i64 (i : Nat)) (.int .i64 5)) (.int .i64 (y : Nat)) (by kernel_rfl) (by kernel_rfl) (fun wz _ => M2.out wz) ?_
      with_reducible refine q_val (.int .i64 (i : Nat)) (by kernel_rfl) (fun _ _ => by kernel_rfl) ?_
      with_reducible refine q_v (Instr.indexAt 35 (.pointer (some ⟨w.heap.size, 0, none⟩)) (.int .i64 (i : Nat))) (.pointer (some ⟨w.heap.size, i, none⟩)) (by kernel_rfl) (by kernel_rfl) (fun wz _ => ixA (w.heap.size) i HI.out wz) ?_
      with_reducible refine q_load 34 (.tmp 19) (.pointer (some ⟨w.heap.size, i, none⟩)) (.int .u64 z) rfl (by kernel_rfl) (by kernel_rfl) (fun _ h => h.ldS i HI.out _ HZ.out) ?_
      with_reducible refine q_v (Instr.indexAt 49 (.pointer (some ⟨A, 0, none⟩)) (.int .i64 (x : Nat))) (.pointer (some ⟨A, 5 * x, none⟩)) (by kernel_rfl) (by kernel_rfl) (fun wz _ => ix25 (A) x HX.out wz) ?_
      with_reducible refine q_v (Instr.indexAt 48 (.pointer (some ⟨A, 5 * x, none⟩)) (.int .i64 (y : Nat))) (.pointer (some ⟨A, 5 * x + y, none⟩)) (by kernel_rfl) (by kernel_rfl) (fun wz _ => ix5 (A) (5 * x) y HY.out wz) ?_
      with_reducible refine wpQuiet_nil ?_
      intro w1 hCx
      simp only [Act.put, List.setIfInBounds_toArray, List.set_cons_succ, List.set_cons_zero]
      have hsa := hCx.setA x y HX.out HY.out z
      have co := (cell_of_row w1 _ (5 * x + y) _ _ _ hCx.ra).trans (ar_at _ _ _ _ (by omega))
      have fo := frozen_of_row _ _ (5 * x + y) _ _ hCx.ra
      rw [HN.out] at hsa
      have H2 := Lib.hid hsa
      clear hCx H hsa
      go_wp2_with fail
      go_roundw
      case rel => exact ⟨i + 1, by omega, by go_num, H2⟩
      case measure => simp [intOf]; omega
    · obtain rfl : i = 25 := by omega
      have H1 := Lib.hid (show CF w g A s (kpm rcT 0 s) wr from ⟨H.out.old, H.out.r0, H.out.r1, by have e := H.out.ra; rw [tp_congr (fst_25 s (fun _ => 0))] at e; exact e, H.out.rc, H.out.hA, H.out.hg, H.out.ne⟩)
      clear H
      rw [show ((25 : Nat) : Int) = 25 from rfl]
      go_wp2_with fail
      go_loopw [6] (fun i wr => ∃ k : Nat, k ≤ 24 ∧ i = .int .i64 k ∧ Hid (CF w g A s (kpm rcT k s) wr)) (fun i _ => 24 - (intOf i).toNat)
      case atStart => exact ⟨0, by omega, rfl, H1⟩
      case round =>
        obtain ⟨k, hk, rfl, H⟩ := hrel
        clear H1
        have hk0 : (0 : Int) ≤ k := by omega
        by_cases hlk : k < 24
        · have hlk' : (k : Int) < 24 := by omega
          have HK := Lib.hid hlk
          obtain ⟨v, hv⟩ : ∃ v, kpm rcT k s = v := ⟨_, rfl⟩
          have HR := Lib.hid (krr v (fun i hi => by rw [← hv]; exact kpm_rng rcT k HV.out i hi))
          obtain ⟨c0, hc0⟩ : ∃ c, rcT k = c := ⟨_, rfl⟩
          have HN := Lib.hid (show updI (kch (kmv (kth v))) (0 + 5 * 0) (bits .xor .u64 (kch (kmv (kth v)) 0) c0) = kpm rcT (k + 1) s from by rw [← hv, ← hc0]; rfl)
          have HC := Lib.hid (show ∀ u wx, CF w g A s u wx → wx.cell? ⟨g, k, none⟩ = some (.int .u64 c0) from fun u wx h => by rw [← hc0]; exact h.rc k HK.out)
          obtain ⟨u, hu⟩ : ∃ u, kch (kmv (kth v)) = u := ⟨_, rfl⟩
          rw [hu] at HR HN
          rw [hv] at H
          clear hv hc0 hu
          obtain ⟨a, ha⟩ : ∃ a, tp v = a := ⟨_, rfl⟩
          obtain ⟨b, hb⟩ : ∃ a, tp u = a := ⟨_, rfl⟩
          have HA := Lib.hid (show wr.heap[A]? = some (.cells (ar .u64 25 a) 49 (0, 0)) from by rw [← ha]; exact H.out.ra)
          rw [ha, hb] at HR
          have HB := Lib.hid hb
          clear ha hb
          go_wp2_with (refine wpList_load_row rfl 49 _ rfl A rfl 49 (ar .u64 25 a) (0, 0) _ HA.out Tryd.underlying49 rfl (HI5 a).out ?_)
          refine (HR.out _).mono ?_
          rintro e w3 ⟨rfl, hbl⟩
          have H3 := Lib.hid (H.out.below hbl)
          clear hbl H HA HR
          have H4 := Lib.hid (H3.out.rowA u)
          rw [HB.out] at H4
          have HA3 := Lib.hid H3.out.ra
          clear H3
          go_wp2_with (refine wpList_store_row rfl 49 _ _ rfl A (ar .u64 25 b) rfl rfl 49 _ HA3.out (HI5 b).out (by rw [ar_size, ar_size]) (ar_one _ _ _) ?_)
          clear HA3
          refine region_quiet_tail 10 (CF w g A s u) (by kernel_rfl) (by kernel_rfl) H4.out.drew ?_
          simp only [List.take_succ_cons, List.take_zero, List.drop_succ_cons, List.drop_zero]
          with_reducible refine q_val (.pointer (some ⟨A, 0, none⟩)) (by kernel_rfl) (fun _ _ => by kernel_rfl) ?_
          with_reducible refine q_val (.pointer (some ⟨A, 0, none⟩)) (by kernel_rfl) (fun _ _ => by kernel_rfl) ?_
          with_reducible refine q_load 34 (.tmp 30) (.pointer (some ⟨A, 0, none⟩)) (.int .u64 (u 0)) rfl (by kernel_rfl) (by kernel_rfl) (fun _ h => h.ldA 0 0 (by decide) (by decide) _ rfl) ?_
          with_reducible refine q_val (.slice (some ⟨g, 0, none⟩) 24 c) (by kernel_rfl) (fun _ _ => by kernel_rfl) ?_
          with_reducible refine q_val (.int .i64 (k : Nat)) (by kernel_rfl) (fun _ _ => by kernel_rfl) ?_
          with_reducible refine q_v (Instr.indexAt 50 (.slice (some ⟨g, 0, none⟩) 24 c) (.int .i64 (k : Nat))) (.pointer (some ⟨g, k, none⟩)) (by kernel_rfl) (by kernel_rfl) (fun wz _ => ixG g c k HK.out wz) ?_
          with_reducible refine q_load 34 (.tmp 34) (.pointer (some ⟨g, k, none⟩)) (.int .u64 c0) rfl (by kernel_rfl) (by kernel_rfl) (fun _ h => kload _ _ _ _ (HC.out _ _ h)) ?_
          with_reducible refine q_val (.int .u64 (bits .xor .u64 (u 0) c0)) (by kernel_rfl) (fun _ _ => by kernel_rfl) ?_
          with_reducible refine q_val (.pointer (some ⟨A, 0, none⟩)) (by kernel_rfl) (fun _ _ => by kernel_rfl) ?_
          with_reducible refine q_val (.pointer (some ⟨A, 0, none⟩)) (by kernel_rfl) (fun _ _ => by kernel_rfl) ?_
          with_reducible refine wpQuiet_nil ?_
          intro w1 hCx
          simp only [Act.put, List.setIfInBounds_toArray, List.set_cons_succ, List.set_cons_zero]
          have hsa := hCx.setA 0 0 (by decide) (by decide) (bits .xor .u64 (u 0) c0)
          have co := (cell_of_row w1 _ 0 _ _ _ hCx.ra).trans (ar_at _ _ _ _ (by decide))
          have fo := frozen_of_row _ _ 0 _ _ hCx.ra
          rw [HN.out] at hsa
          have H2 := Lib.hid hsa
          clear hCx H4 hsa
          go_wp2_with fail
          go_roundw
          case rel => exact ⟨k + 1, by omega, by go_num, H2⟩
          case measure => simp [intOf]; omega
        · obtain rfl : k = 24 := by omega
          obtain ⟨v, hv⟩ : ∃ v, kpm rcT 24 s = v := ⟨_, rfl⟩
          have HW := Lib.hid hv
          rw [hv] at H
          clear hv
          have H1 := Lib.hid (show CF w g A (fst' v s 0) v wr from by rw [fst_0]; exact H.out)
          clear H
          rw [show ((24 : Nat) : Int) = 24 from rfl]
          go_wp2_with fail
          go_loopw [7] (fun i wr => ∃ k : Nat, k ≤ 25 ∧ i = .int .i64 k ∧ Hid (CF w g A (fst' v s k) v wr)) (fun i _ => 25 - (intOf i).toNat)
          case atStart => exact ⟨0, by omega, rfl, H1⟩
          case round =>
            obtain ⟨i, hi, rfl, H⟩ := hrel
            clear H1
            have hi0 : (0 : Int) ≤ i := by omega
            by_cases hlt : i < 25
            · have hlt' : (i : Int) < 25 := by omega
              obtain ⟨x, hx⟩ : ∃ x : Nat, i % 5 = x := ⟨_, rfl⟩
              obtain ⟨y, hy⟩ : ∃ x : Nat, i / 5 = x := ⟨_, rfl⟩
              have hx5 : x < 5 := by omega
              have hy5 : y < 5 := by omega
              have m1 : ∀ w, (binOp BinOp.rem 3 (.int .i64 (i : Nat)) (.int .i64 5)).run Tryd.prog w = .ok (.int .i64 (x : Nat)) w := by
                have e1 : (i : Int).tmod 5 = (x : Int) := by rw [Int.tmod_eq_emod_of_nonneg (by omega)]; omega
                have e2 : (i : Int) % 5 = (x : Int) := by omega
                have e3 : IntKind.i64.wrap (x : Int) = x := by rw [IntKind.wrap_i64]; omega
                intro w
                go_simp
              have m2 : ∀ w, (binOp BinOp.quo 3 (.int .i64 (i : Nat)) (.int .i64 5)).run Tryd.prog w = .ok (.int .i64 (y : Nat)) w := by
                have e1 : (i : Int).tdiv 5 = (y : Int) := by rw [Int.tdiv_eq_ediv_of_nonneg (by omega)]; omega
                have e0 : (i : Int) / 5 = (y : Int) := by omega
                have e2 : IntKind.i64.wrap (y : Int) = y := by rw [IntKind.wrap_i64]; omega
                intro w
                go_simp
              have M1 := Lib.hid m1
              have M2 := Lib.hid m2
              have HX := Lib.hid hx5
              have HY := Lib.hid hy5
              have HI := Lib.hid (show i < 25 by omega)
              clear m1 m2
              have HN := Lib.hid (fst_next v s i)
              obtain ⟨z, hz⟩ : ∃ z, v i = z := ⟨_, rfl⟩
              rw [hz] at HN
              have HZ := Lib.hid (show v (x + 5 * y) = z from by rw [show x + 5 * y = i by omega]; exact hz)
              have d1 : (i : Int) % 5 = (x : Int) := by omega
              have d2 : (i : Int) / 5 = (y : Int) := by omega
              have i1 := ix25 A x hx5
              have i2 := ix5 A (5 * x) y hy5
              have i3 := ixA w.heap.size i HI.out
              have cl : wr.cell? ⟨A, 5 * x + y, none⟩ = some (.int .u64 z) := by
                rw [← HZ.out, ← tp_at v hy5]
                exact (cell_of_row wr _ _ _ _ _ H.out.ra).trans (ar_at _ _ _ _ (by omega))
              have co := (cell_of_row wr _ i _ _ _ H.out.r0).trans (ar_at _ _ _ _ HI.out)
              have fo := frozen_of_row _ _ i _ _ H.out.r0
              have hsa := H.out.setS i HI.out z
              rw [HN.out] at hsa
              have H2 := Lib.hid hsa
              clear hz hx hy hsa
              go_wp2_with fail
              go_roundw
              case rel => exact ⟨i + 1, by omega, by go_num, H2⟩
              case measure => simp [intOf]; omega
            · obtain rfl : i = 25 := by omega
              have h0 := H.out.r0
              rw [ar_congr (fst_25 v s)] at h0
              have HB := Lib.hid (And.intro H.out.old (And.intro h0 H.out.r1))
              clear h0 H
              go_wp2_with (first | (refine wpList_load_row rfl 35 _ rfl w.heap.size rfl 35 _ (0, 0) _ HB.out.2.1 Tryd.underlying35 rfl (HIA v).out ?_) | (refine wpList_store_row rfl 35 _ _ rfl (w.heap.size + 1) (ar .u64 25 v) rfl rfl 35 _ HB.out.2.2 (HIA v).out (by rw [ar_size]; rfl) (ar_one _ _ _) ?_))
              refine bodyPost_ret (v := .agg (ar .u64 25 v)) (results_cell_row (p := 2) rfl _ _ (w.heap.size + 1) 35 _ (0, 0) _ rfl (setRow_heap _ _ _ _ _ _ HB.out.2.2) Tryd.underlying35 rfl (HIA v).out) rfl ⟨by rw [HW.out], below_setRow HB.out.1 (by omega) _⟩
end Go.Proofs.YtcmpnnfnkcmpcaaDoor
namespace Go.Proofs.YtcmpnnfnkcmpcaaDoor
open Go.RowKit

/-- A list, or none, of n bytes. -/
def RdB (w : World) (a : Option Addr) (n : Nat) (f : Nat → Nat) : Prop := n = 0 ∨ ∃ b o, a = some ⟨b, o, none⟩ ∧ b < w.heap.size ∧ ∀ j, j < n → w.cell? ⟨b, o + j, none⟩ = some (.int .u8 (f j : Nat))
theorem RdB.below {w w' : World} {a : Option Addr} {n : Nat} {f : Nat → Nat} (h : RdB w a n f) (hb : Below w.heap.size w w') : RdB w' a n f := by
  rcases h with h | ⟨b, o, h1, h2, h3⟩
  · exact .inl h
  · exact .inr ⟨b, o, h1, Nat.lt_of_lt_of_le h2 hb.size, fun j hj => (hb.cell (p := ⟨b, o + j, none⟩) h2).trans (h3 j hj)⟩
theorem RdB.at_ {w : World} {a : Option Addr} {n : Nat} {f : Nat → Nat} (h : RdB w a n f) (cap k : Nat) (hk : k < n) : ∃ p : Addr, (∀ w, (Instr.indexAt 22 (.slice a n cap) (.int .i64 (k : Int))).run Tryd.prog w = .ok (.pointer (some p)) w) ∧ p.block < w.heap.size ∧ w.cell? p = some (.int .u8 (f k : Nat)) := by
  rcases h with rfl | ⟨b, o, rfl, h1, h2⟩
  · omega
  · refine ⟨⟨b, o + k, none⟩, fun w => ?_, h1, h2 k hk⟩
    have h0 : (0 : Int) ≤ k := by omega
    have h1 : (k : Int) < n := by omega
    go_simp
/-- Bytes among the arguments of a call. -/
def ArgB (w : World) (v : Value) (n : Nat) (f : Nat → Nat) : Prop := ∃ (a : Option Addr) (cap : Nat), v = .slice a n cap ∧ n ≤ cap ∧ (a = none → cap = 0) ∧ RdB w a n f
theorem ArgB.below {w w' : World} {v : Value} {n : Nat} {f : Nat → Nat} (h : ArgB w v n f) (hb : Below w.heap.size w w') : ArgB w' v n f := by
  obtain ⟨a, cap, h1, h2, h3, h4⟩ := h
  exact ⟨a, cap, h1, h2, h3, h4.below hb⟩
/-- Bytes as cells. -/
def p8 (f : Nat → Nat) (n : Nat) : List Value := (List.range n).map fun j => .int .u8 (f j : Nat)
theorem p8_len (f : Nat → Nat) (n : Nat) : (p8 f n).length = n := by simp [p8]
theorem p8_at (f : Nat → Nat) (n j : Nat) (h : j < n) : (p8 f n)[j]? = some (.int .u8 (f j : Nat)) := by simp [p8, h]
theorem p8_one (f : Nat → Nat) (n : Nat) : ∀ u ∈ p8 f n, u.oneCell' = true := fun u hu => by
  unfold p8 at hu
  rw [List.mem_map] at hu
  obtain ⟨j, -, rfl⟩ := hu
  rfl
theorem p8_congr {f g : Nat → Nat} {n : Nat} (h : ∀ j, j < n → f j = g j) : p8 f n = p8 g n := by
  unfold p8
  apply List.map_congr_left
  intro j hj
  rw [h j (by simpa using hj)]
theorem p8_next (f : Nat → Nat) (n : Nat) : p8 f n ++ [.int .u8 (f n : Nat)] = p8 f (n + 1) := by
  unfold p8
  rw [List.range_succ, List.map_append]
  rfl
theorem p8_snoc (f g : Nat → Nat) (n : Nat) (z : Int) (h : ∀ j, j < n → f j = g j) (hx : ((g n : Nat) : Int) = z) : p8 f n ++ [.int .u8 z] = p8 g (n + 1) := by
  rw [p8_congr h, ← hx, p8_next]
theorem p8_news {w : World} {a : Addr} {n : Nat} {f : Nat → Nat} (h : RdB w (some a) n f) : ∀ j u, (p8 f n)[j]? = some u → w.cell? (a.add j) = some u := fun j u hj => by
  have hj2 : j < n := by
    have := (List.getElem?_eq_some_iff.1 hj).1
    rwa [p8_len] at this
  rw [p8_at _ _ _ hj2] at hj
  cases hj
  rcases h with h | ⟨b, o, e, h1, h2⟩
  · omega
  · injection e with e
    subst e
    have h := h2 j hj2
    cases j with
    | zero => simpa [Addr.add] using h
    | succ j => simpa [Addr.add] using h
/-- Bytes of one's own. -/
def Own8 (base : Nat) (f : Nat → Nat) (n : Nat) (v : Value) (w : World) : Prop := w.ownsRow base 5 1 v n (p8 f n)
theorem own_rdb {w : World} {base n : Nat} {v : Value} {f : Nat → Nat} (h : w.ownsRow base 5 1 v n (p8 f n)) : ∃ a c, v = .slice a n c ∧ n ≤ c ∧ (a = none → c = 0) ∧ RdB w a n f := by
  rcases h.2 with ⟨h1, h2⟩ | ⟨g, cap, cur, h1, hb, hc, hnc, hm, hcs, ht⟩
  · subst h2
    exact ⟨none, 0, h1, Nat.le_refl _, fun _ => rfl, .inl rfl⟩
  · refine ⟨_, cap, h1, hnc, (fun h => nomatch h), .inr ⟨g, 0, rfl, (Array.getElem?_eq_some_iff.1 hc).1, fun j hj => ?_⟩⟩
    rw [Nat.zero_add, cell_of_row _ _ _ _ _ _ hc, ← p8_at f n j hj, ← ht]
    simp only [Nat.mul_one, List.getElem?_take, hj, if_true]
    simp
theorem own_arg {w : World} {base n : Nat} {v : Value} {f : Nat → Nat} (h : w.ownsRow base 5 1 v n (p8 f n)) : ArgB w v n f := by
  obtain ⟨a, c, h1, h2, h3, h4⟩ := own_rdb h
  exact ⟨a, c, h1, h2, h3, h4⟩
theorem info8 : (Tryd.prog.info? 5).map (fun i => (i.zero, i.size, i.bytes)) = some (some (.int .u8 0), 1, 1) := by kernel_rfl
theorem info_partsB {P : Program} {t : TypeId} {z : Value} {s b : Nat} (h : (P.info? t).map (fun i => (i.zero, i.size, i.bytes)) = some (some z, s, b)) : ∃ i, P.info? t = some i ∧ i.zero = some z ∧ i.size = s ∧ i.bytes = b := by
  cases hq : P.info? t with
  | none => rw [hq] at h; cases h
  | some i =>
    rw [hq] at h
    simp at h
    exact ⟨i, rfl, h.1, h.2.1, h.2.2⟩
/-- Bytes behind what is one's own. -/
theorem copy_own {w : World} {u v : Value} {k n base : Nat} {f g : Nat → Nat} (hu : w.ownsRow base 5 1 u k (p8 g k)) (hs : ∃ b c, u = .slice (some ⟨b, 0, none⟩) k c) (h : ArgB w v n f) (hn : ((k + n : Nat) : Int) ≤ 100000000) (hbs : base ≤ w.heap.size) (ty : TypeId) : ∃ v' w', (Builtin.append_ #[22, 22] ty #[u, v]).run Tryd.prog w = .ok v' w' ∧ w'.ownsRow base 5 1 v' (k + n) (p8 g k ++ p8 f n) ∧ (∃ b c, v' = .slice (some ⟨b, 0, none⟩) (k + n) c) ∧ w.grownBy w' u.ownBlock := by
  obtain ⟨i0, hi, hz0, hz1, hz2⟩ := info_partsB info8
  obtain ⟨a, cap, rfl, hc, hn0, hr⟩ := h
  cases a with
  | none =>
    have h0 := hn0 rfl
    subst h0
    obtain rfl : n = 0 := by omega
    refine ⟨_, _, run_append_owned_none (P := Tryd.prog) _ base 22 ty 5 i0 1 Tryd.underlying22 hi _ k _ hu, by simpa [p8] using hu, by simpa using hs, ⟨rfl, rfl, rfl, Nat.le_refl _, fun _ _ _ => rfl⟩⟩
  | some q =>
    obtain ⟨v', w', hr, hown, hg, hnil⟩ := run_append_own (P := Tryd.prog) (w := w) base 22 ty 5 i0 (.int .u8 0) 1 1 Tryd.underlying22 hi hz0 hz1 hz2 rfl (by decide) _ k _ hu q n cap (p8 f n) (by rw [p8_len, Nat.mul_one]) (p8_news hr) (p8_one f n) (by unfold maxLen; omega) (by omega) hbs
    refine ⟨v', w', hr, hown, ?_, hg⟩
    rcases hown.2 with ⟨h1, h2⟩ | ⟨g1, c1, cur, h1, -⟩
    · exfalso
      obtain ⟨b, c, rfl⟩ := hs
      have h3 : v' = .slice none 0 0 := by rw [h1]
      have h4 := (hnil.1 h3).1
      cases h4
    · exact ⟨g1, c1, h1⟩
end Go.Proofs.YtcmpnnfnkcmpcaaDoor
namespace Go.Proofs.YtcmpnnfnkcmpcaaDoor
open Go.RowKit

/-- The byte x laid over the place p. -/
def xby (v : Nat → Int) (p x : Nat) : Nat → Int := updI v (p / 8) (bits .xor .u64 (v (p / 8)) ((x * 2 ^ (8 * (p % 8)) : Nat) : Int))
/-- The state behind m bytes. -/
def ab (f : Nat → Nat) : Nat → Nat → Int
  | 0 => fun _ => 0
  | m + 1 => if (m + 1) % 136 = 0 then kpm rcT 24 (xby (ab f m) (m % 136) (f m)) else xby (ab f m) (m % 136) (f m)
/-- The byte at a place. -/
def byt (v : Nat → Int) (i : Nat) : Int := v (i / 8) / 2 ^ (8 * (i % 8)) % 256
/-- The last state. -/
def fin (f : Nat → Nat) (m : Nat) : Nat → Int := kpm rcT 24 (xby (xby (ab f m) (m % 136) 1) 135 128)
/-- The hash of m bytes. -/
def ksh (f : Nat → Nat) (m : Nat) : Nat → Int := byt (fin f m)
theorem xby_rng {v : Nat → Int} (hv : ∀ i, i < 25 → 0 ≤ v i ∧ v i < 18446744073709551616) (p x : Nat) : ∀ i, i < 25 → 0 ≤ xby v p x i ∧ xby v p x i < 18446744073709551616 := fun i hi => by
  unfold xby updI
  by_cases h : i = p / 8
  · rw [if_pos h]; exact kxor_rng _ _
  · rw [if_neg h]; exact hv i hi
theorem ab_rng (f : Nat → Nat) : ∀ m i, i < 25 → 0 ≤ ab f m i ∧ ab f m i < 18446744073709551616
  | 0 => fun _ _ => by show (0 : Int) ≤ 0 ∧ (0 : Int) < 18446744073709551616; omega
  | m + 1 => fun i hi => by
    show 0 ≤ (if (m + 1) % 136 = 0 then _ else _ : Nat → Int) i ∧ (if (m + 1) % 136 = 0 then _ else _ : Nat → Int) i < _
    by_cases h : (m + 1) % 136 = 0
    · rw [if_pos h]; exact kpm_rng rcT 24 (xby_rng (ab_rng f m) _ _) i hi
    · rw [if_neg h]; exact xby_rng (ab_rng f m) _ _ i hi
theorem apt_of {w : World} (hT : KTab w) {V : Nat} (h : w.heap.size ≤ V) : Apt V := by
  have h1 := block_lt_of_cell (hT.pth 0 (by decide))
  have h2 := block_lt_of_cell (hT.rcs 0 (by decide))
  exact ⟨by omega, by omega⟩
theorem quo8 (p : Nat) (hp : p < 1000) (w : World) : (binOp BinOp.quo 3 (.int .i64 (p : Nat)) (.int .i64 8)).run Tryd.prog w = .ok (.int .i64 (p / 8 : Nat)) w := by
  obtain ⟨q, hq⟩ : ∃ q, p / 8 = q := ⟨_, rfl⟩
  rw [hq]
  have e1 : (p : Int).tdiv 8 = (q : Int) := by rw [Int.tdiv_eq_ediv_of_nonneg (by omega)]; omega
  have e0 : (p : Int) / 8 = (q : Int) := by omega
  have e2 : IntKind.i64.wrap (q : Int) = q := by rw [IntKind.wrap_i64]; omega
  go_simp
theorem rem8 (p : Nat) (hp : p < 1000) (w : World) : (binOp BinOp.rem 3 (.int .i64 (p : Nat)) (.int .i64 8)).run Tryd.prog w = .ok (.int .i64 (p % 8 : Nat)) w := by
  obtain ⟨q, hq⟩ : ∃ q, p % 8 = q := ⟨_, rfl⟩
  rw [hq]
  have e1 : (p : Int).tmod 8 = (q : Int) := by rw [Int.tmod_eq_emod_of_nonneg (by omega)]; omega
  have e0 : (p : Int) % 8 = (q : Int) := by omega
  have e2 : IntKind.i64.wrap (q : Int) = q := by rw [IntKind.wrap_i64]; omega
  go_simp
theorem mul8 (p : Nat) (hp : p < 8) (w : World) : (binOp BinOp.mul 3 (.int .i64 (p : Nat)) (.int .i64 8)).run Tryd.prog w = .ok (.int .i64 (8 * p : Nat)) w := by
  obtain ⟨q, hq⟩ : ∃ q, 8 * p = q := ⟨_, rfl⟩
  rw [hq]
  have e0 : (p : Int) * 8 = (q : Int) := by omega
  have e2 : IntKind.i64.wrap (q : Int) = q := by rw [IntKind.wrap_i64]; omega
  go_simp
theorem mul8' (p : Nat) (hp : p < 8) (w : World) : (binOp BinOp.mul 3 (.int .i64 8) (.int .i64 (p : Nat))).run Tryd.prog w = .ok (.int .i64 (8 * p : Nat)) w := by
  obtain ⟨q, hq⟩ : ∃ q, 8 * p = q := ⟨_, rfl⟩
  rw [hq]
  have e0 : (8 : Int) * p = (q : Int) := by omega
  have e2 : IntKind.i64.wrap (q : Int) = q := by rw [IntKind.wrap_i64]; omega
  go_simp
theorem cv8 (x : Nat) (hx : x < 256) (w : World) : (convert 5 34 (.int .u8 (x : Nat))).run Tryd.prog w = .ok (.int .u64 (x : Nat)) w := by
  have e2 : IntKind.u64.wrap (x : Int) = x := by rw [IntKind.wrap_u64]; omega
  go_simp
theorem up_lt {x s : Nat} (hx : x < 256) (hs : s ≤ 56) : x * 2 ^ s < 18446744073709551616 := by
  have h1 : x * 2 ^ s < 256 * 2 ^ s := Nat.mul_lt_mul_of_pos_right hx (Nat.pow_pos (by decide))
  have h2 : 2 ^ s ≤ 2 ^ 56 := Nat.pow_le_pow_right (by decide) hs
  have h3 : 256 * 2 ^ s ≤ 256 * 2 ^ 56 := Nat.mul_le_mul_left _ h2
  have h4 : 256 * 2 ^ 56 = 18446744073709551616 := by decide
  omega
theorem shl8 (x s : Nat) (hx : x < 256) (hs : s ≤ 56) (w : World) : (binOp BinOp.shl 34 (.int .u64 (x : Nat)) (.int .i64 (s : Nat))).run Tryd.prog w = .ok (.int .u64 (x * 2 ^ s : Nat)) w := by
  have hl := up_lt hx hs
  obtain ⟨X, hX⟩ : ∃ X, x * 2 ^ s = X := ⟨_, rfl⟩
  rw [hX] at hl ⊢
  have e0 : (x : Int) * 2 ^ s = (X : Int) := by rw [← hX, Int.natCast_mul, Int.natCast_pow]; rfl
  have e1 : (X : Int) % 18446744073709551616 = (X : Int) := by omega
  have e3 : IntKind.u64.wrap (X : Int) = (X : Int) := by rw [IntKind.wrap_u64]; omega
  have hs0 : (0 : Int) ≤ s := by omega
  have hs1 : (s : Int) < 64 := by omega
  go_simp
set_option maxRecDepth 100000 in
set_option maxHeartbeats 4000000 in
-- A BYTE LAID OVER THE STATE.
theorem kxb {V : Nat} {tt : TypeId} {tl : Array Value} {v : Nat → Int} (p x : Nat) (hp : p < 136) (hx : x < 256) (w : World) (hw : w.heap[V]? = some (.cells (kr v tl) tt (0, 0))) :
    Calls Tryd.prog 26 #[.pointer (some ⟨V, 0, none⟩), .int .i64 p, .int .u8 x] w fun e w' => e = .returned (.tuple #[]) ∧ CP w V tt tl (xby v p x) w' := by
  have H0 := Lib.hid (show CP w V tt tl v w from ⟨Bt.refl _ _, hw⟩)
  unfold xby
  clear hw
  have HP := Lib.hid (show p < 1000 by omega)
  have HX := Lib.hid hx
  obtain ⟨q, hq⟩ : ∃ q, p / 8 = q := ⟨_, rfl⟩
  obtain ⟨r, hr⟩ : ∃ q, p % 8 = q := ⟨_, rfl⟩
  obtain ⟨s, hs⟩ : ∃ q, 8 * r = q := ⟨_, rfl⟩
  obtain ⟨X, hX⟩ : ∃ q, x * 2 ^ s = q := ⟨_, rfl⟩
  rw [hq, hr, hs, hX]
  have M1 := Lib.hid (show ∀ w, (binOp BinOp.quo 3 (.int .i64 (p : Nat)) (.int .i64 8)).run Tryd.prog w = .ok (.int .i64 (q : Nat)) w from fun w => by rw [← hq]; exact quo8 p HP.out w)
  have M2 := Lib.hid (show ∀ w, (binOp BinOp.rem 3 (.int .i64 (p : Nat)) (.int .i64 8)).run Tryd.prog w = .ok (.int .i64 (r : Nat)) w from fun w => by rw [← hr]; exact rem8 p HP.out w)
  have M3 := Lib.hid (show ∀ w, (binOp BinOp.mul 3 (.int .i64 (r : Nat)) (.int .i64 8)).run Tryd.prog w = .ok (.int .i64 (s : Nat)) w from fun w => by rw [← hs]; exact mul8 r (by omega) w)
  have M4 := Lib.hid (show ∀ w, (binOp BinOp.shl 34 (.int .u64 (x : Nat)) (.int .i64 (s : Nat))).run Tryd.prog w = .ok (.int .u64 (X : Nat)) w from fun w => by rw [← hX]; exact shl8 x s HX.out (by omega) w)
  have M5 := Lib.hid (cv8 x hx)
  have HQ := Lib.hid (show q < 25 by omega)
  clear hq hr hs hX hp hx
  go_enter Tryd.func26, Tryd.ntmps26
  go_wp2_with fail
  refine region_quiet_tail 15 (CP w V tt tl v) (by kernel_rfl) (by kernel_rfl) H0.out.drew ?_
  simp only [List.take_succ_cons, List.take_zero, List.drop_succ_cons, List.drop_zero]
  with_reducible refine q_val (.pointer (some ⟨V, 0, none⟩)) (by kernel_rfl) (fun _ _ => by kernel_rfl) ?_
  with_reducible refine q_val (.int .i64 (p : Nat)) (by kernel_rfl) (fun _ _ => by kernel_rfl) ?_
  with_reducible refine q_v (binOp BinOp.quo 3 (.int .i64 (p : Nat)) (.int .i64 8)) (.int .i64 (q : Nat)) (by kernel_rfl) (by kernel_rfl) (fun wz _ => M1.out wz) ?_
  with_reducible refine q_val (.pointer (some ⟨V, 0, none⟩)) (by kernel_rfl) (fun _ _ => by kernel_rfl) ?_
  with_reducible refine q_v (Instr.indexAt 44 (.pointer (some ⟨V, 0, none⟩)) (.int .i64 (q : Nat))) (.pointer (some ⟨V, q, none⟩)) (by kernel_rfl) (by kernel_rfl) (fun wz _ => ixV V q HQ.out wz) ?_
  with_reducible refine q_load 34 (.tmp 10) (.pointer (some ⟨V, q, none⟩)) (.int .u64 (v q)) rfl (by kernel_rfl) (by kernel_rfl) (fun _ h => h.at' q HQ.out _ rfl) ?_
  with_reducible refine q_val (.int .u8 (x : Nat)) (by kernel_rfl) (fun _ _ => by kernel_rfl) ?_
  with_reducible refine q_v (convert 5 34 (.int .u8 (x : Nat))) (.int .u64 (x : Nat)) (by kernel_rfl) (by kernel_rfl) (fun wz _ => M5.out wz) ?_
  with_reducible refine q_val (.int .i64 (p : Nat)) (by kernel_rfl) (fun _ _ => by kernel_rfl) ?_
  with_reducible refine q_v (binOp BinOp.rem 3 (.int .i64 (p : Nat)) (.int .i64 8)) (.int .i64 (r : Nat)) (by kernel_rfl) (by kernel_rfl) (fun wz _ => M2.out wz) ?_
  with_reducible refine q_v (binOp BinOp.mul 3 (.int .i64 (r : Nat)) (.int .i64 8)) (.int .i64 (s : Nat)) (by kernel_rfl) (by kernel_rfl) (fun wz _ => M3.out wz) ?_
  with_reducible refine q_v (binOp BinOp.shl 34 (.int .u64 (x : Nat)) (.int .i64 (s : Nat))) (.int .u64 (X : Nat)) (by kernel_rfl) (by kernel_rfl) (fun wz _ => M4.out wz) ?_
  with_reducible refine q_val (.int .u64 (bits .xor .u64 (v q) (X : Nat))) (by kernel_rfl) (fun _ _ => by kernel_rfl) ?_
  with_reducible refine q_val (.pointer (some ⟨V, 0, none⟩)) (by kernel_rfl) (fun _ _ => by kernel_rfl) ?_
  with_reducible refine q_v (Instr.indexAt 44 (.pointer (some ⟨V, 0, none⟩)) (.int .i64 (q : Nat))) (.pointer (some ⟨V, q, none⟩)) (by kernel_rfl) (by kernel_rfl) (fun wz _ => ixV V q HQ.out wz) ?_
  with_reducible refine wpQuiet_nil ?_
  intro w1 hCx
  simp only [Act.put, List.setIfInBounds_toArray, List.set_cons_succ, List.set_cons_zero]
  have co := hCx.cell q HQ.out
  have fo := frozen_of_row _ _ q _ _ hCx.row
  have H2 := Lib.hid (hCx.set q HQ.out (bits .xor .u64 (v q) (X : Nat)))
  clear hCx H0
  go_wp2_with fail
  go_end0
  exact ⟨rfl, H2.out⟩
theorem shr8 (z : Int) (s : Nat) (hs : s ≤ 56) (w : World) : (binOp BinOp.shr 34 (.int .u64 z) (.int .i64 (s : Nat))).run Tryd.prog w = .ok (.int .u64 (z / 2 ^ s)) w := by
  have hs0 : (0 : Int) ≤ s := by omega
  have hs1 : (s : Int) < 64 := by omega
  go_simp
theorem byt_rng (v : Nat → Int) (i : Nat) : 0 ≤ byt v i ∧ byt v i < 256 := by
  unfold byt
  omega
set_option maxRecDepth 100000 in
set_option maxHeartbeats 4000000 in
-- A BYTE TOLD.
theorem kba {V : Nat} {tt : TypeId} {tl : Array Value} {v : Nat → Int} (i : Nat) (hi : i < 32) (w : World) (hw : w.heap[V]? = some (.cells (kr v tl) tt (0, 0))) :
    Calls Tryd.prog 38 #[.pointer (some ⟨V, 0, none⟩), .int .i64 i] w fun e w' => e = .returned (.int .u8 (byt v i)) ∧ w' = w := by
  have hb := byt_rng v i
  unfold byt at hb ⊢
  obtain ⟨q, hq⟩ : ∃ q, i / 8 = q := ⟨_, rfl⟩
  obtain ⟨r, hr⟩ : ∃ q, i % 8 = q := ⟨_, rfl⟩
  obtain ⟨s, hs⟩ : ∃ q, 8 * r = q := ⟨_, rfl⟩
  rw [hq, hr, hs] at hb ⊢
  have m1 : ∀ w, (binOp BinOp.quo 3 (.int .i64 (i : Nat)) (.int .i64 8)).run Tryd.prog w = .ok (.int .i64 (q : Nat)) w := fun w => by rw [← hq]; exact quo8 i (by omega) w
  have d1 : (i : Int) / 8 = (q : Int) := by omega
  have d2 : (i : Int) % 8 = (r : Int) := by omega
  have d3 : (r : Int) * 8 = (s : Int) := by omega
  have hr0 : (0 : Int) ≤ r := by omega
  have hr8 : (r : Int) < 8 := by omega
  have hs0 : (0 : Int) ≤ s := by omega
  have hs1 : (s : Int) < 64 := by omega
  have hi0 : (0 : Int) ≤ i := by omega
  have hi1 : (i : Int) < 32 := by omega
  have hix := ixV V q (by omega)
  have co : w.cell? ⟨V, q, none⟩ = some (.int .u64 (v q)) := (cell_of_row w _ q _ _ _ hw).trans (kr_at _ _ _ (by omega))
  obtain ⟨z, hz⟩ : ∃ z, v q = z := ⟨_, rfl⟩
  rw [hz] at co hb ⊢
  have hwz : IntKind.u8.wrap (z / 2 ^ s) = z / 2 ^ s % 256 := by rw [IntKind.wrap_u8]
  clear hq hr hs hw hi hz hb
  go_enter Tryd.func38, Tryd.ntmps38
  go_wp2
  go_ret
  exact ⟨rfl, rfl⟩
/-- A sponge's cells. -/
theorem kr_tail (v : Nat → Int) (x y : Value) : (kr v #[x]).setIfInBounds 25 y = kr v #[y] := by
  unfold kr
  rw [Array.setIfInBounds_append, if_neg (by rw [ar_size]; omega), ar_size]
  rfl
theorem kr_25 (v : Nat → Int) (x : Value) : (kr v #[x])[25]? = some x := by
  unfold kr
  rw [Array.getElem?_append_right (by rw [ar_size]; omega), ar_size]
  rfl
theorem kr_size (v : Nat → Int) (tl : Array Value) : (kr v tl).size = 25 + tl.size := by
  unfold kr
  rw [Array.size_append, ar_size]
theorem kr_one (v : Nat → Int) (n : Int) : (kr v #[.int .i64 n]).all (·.oneCell') = true := by
  unfold kr
  rw [Array.all_append, ar_one]
  simp [Value.oneCell']
/-- The worlds of Write: the sponge at V. -/
def CW (w : World) (V : Nat) (v : Nat → Int) (n : Nat) (wx : World) : Prop := CP w V 46 #[.int .i64 (n : Nat)] v wx
theorem CW.fill {w wx : World} {V n : Nat} {v : Nat → Int} (h : CW w V v n wx) : wx.cell? ⟨V, 25, none⟩ = some (.int .i64 (n : Nat)) := (cell_of_row wx _ 25 _ _ _ h.row).trans (kr_25 _ _)
theorem CW.setn {w wx : World} {V n : Nat} {v : Nat → Int} (h : CW w V v n wx) (m : Nat) : CW w V v m (wx.setCell ⟨V, 25, none⟩ (.int .i64 (m : Nat))) :=
  ⟨h.bt.set 25 _, (heap_setCell_same _ _ _ _ _ _ h.row).trans (by rw [kr_tail])⟩
theorem sep_of {w : World} {a : Option Addr} {n V : Nat} {f : Nat → Nat} (h : RdB w a n f) (hV : w.heap.size ≤ V) : 0 < n → ∀ b o, a = some ⟨b, o, none⟩ → b ≠ V := fun h0 b o e => by
  rcases h with h | ⟨b', o', e', h1, h2⟩
  · omega
  · rw [e] at e'
    cases e'
    omega
set_option maxRecDepth 100000 in
set_option maxHeartbeats 4000000 in
-- WHAT Write COMES TO.
theorem kwr {V m n : Nat} {f : Nat → Nat} (a : Option Addr) (cap : Nat) (hn : n < 1125899906842624) (hf : ∀ j, f j < 256) (w : World) (hT : KTab w) (hA : Apt V) (hsep : 0 < n → ∀ b o, a = some ⟨b, o, none⟩ → b ≠ V) (hr : RdB w a n (fun j => f (m + j)))
    (hw : w.heap[V]? = some (.cells (kr (ab f m) #[.int .i64 (m % 136 : Nat)]) 46 (0, 0))) :
    Calls Tryd.prog 11 #[.pointer (some ⟨V, 0, none⟩), .slice a n cap] w fun e w' => e = .returned (.tuple #[]) ∧ CW w V (ab f (m + n)) ((m + n) % 136) w' := by
  have H0 := Lib.hid (show CW w V (ab f (m + 0)) ((m + 0) % 136) w from ⟨Bt.refl _ _, hw⟩)
  have HT := Lib.hid (And.intro hT hA)
  have HS := Lib.hid (And.intro hsep hr)
  have HF := Lib.hid hf
  have hn0 : (0 : Int) ≤ n := by omega
  have hn' : (n : Int) < 1125899906842624 := by omega
  clear hw hT hA hsep hr hf hn
  go_enter Tryd.func11, Tryd.ntmps11
  go_wp2_with fail
  go_loopw [8] (fun i wr => ∃ k : Nat, k ≤ n ∧ i = .int .i64 k ∧ Hid (CW w V (ab f (m + k)) ((m + k) % 136) wr)) (fun i _ => n - (intOf i).toNat)
  case atStart => exact ⟨0, by omega, rfl, H0⟩
  case round =>
    obtain ⟨k, hk, rfl, H⟩ := hrel
    clear H0
    have hk0 : (0 : Int) ≤ k := by omega
    by_cases hlt : k < n
    · have hlt' : (k : Int) < n := by omega
      have hk1 : (k : Int) < 1125899906842624 := by omega
      obtain ⟨b, o, rfl, hbl, hcell⟩ : ∃ b o, a = some ⟨b, o, none⟩ ∧ b < w.heap.size ∧ ∀ j, j < n → w.cell? ⟨b, o + j, none⟩ = some (.int .u8 (f (m + j) : Nat)) := by
        rcases HS.out.2 with h0 | h0
        · omega
        · exact h0
      have hne := HS.out.1 (by omega) b o rfl
      have cx : wr.cell? ⟨b, o + k, none⟩ = some (.int .u8 (f (m + k) : Nat)) := (H.out.bt.cell (p := ⟨b, o + k, none⟩) hne hbl).trans (hcell k hlt)
      have HX := Lib.hid (HF.out (m + k))
      obtain ⟨p, hp⟩ : ∃ p, (m + k) % 136 = p := ⟨_, rfl⟩
      have hp136 : p < 136 := by omega
      obtain ⟨x, hx⟩ : ∃ x, f (m + k) = x := ⟨_, rfl⟩
      have hab : ab f (m + (k + 1)) = if (m + (k + 1)) % 136 = 0 then kpm rcT 24 (xby (ab f (m + k)) p x) else xby (ab f (m + k)) p x := by
        show ab f (m + k + 1) = _
        rw [ab, hp, hx]
        rfl
      have HB := Lib.hid hab
      have HP := Lib.hid hp
      rw [hx] at HX cx
      rw [hp] at H
      obtain ⟨v, hv⟩ : ∃ v, ab f (m + k) = v := ⟨_, rfl⟩
      rw [hv] at H HB
      clear hab hp hx hv hcell
      have hix : ∀ w, (Instr.indexAt 22 (.slice (some ⟨b, o, none⟩) n cap) (.int .i64 (k : Nat))).run Tryd.prog w = .ok (.pointer (some ⟨b, o + k, none⟩)) w := fun w => by go_simp
      go_wp2_with fail
      refine region_quiet_tail 8 (CW w V v p) (by kernel_rfl) (by kernel_rfl) H.out.drew ?_
      simp only [List.take_succ_cons, List.take_zero, List.drop_succ_cons, List.drop_zero]
      with_reducible refine q_val (.pointer (some ⟨V, 0, none⟩)) (by kernel_rfl) (fun _ _ => by kernel_rfl) ?_
      with_reducible refine q_val (.pointer (some ⟨V, 0, none⟩)) (by kernel_rfl) (fun _ _ => by kernel_rfl) ?_
      with_reducible refine q_val (.pointer (some ⟨V, 0, none⟩)) (by kernel_rfl) (fun _ _ => by kernel_rfl) ?_
      with_reducible refine q_val (.pointer (some ⟨V, 0, none⟩)) (by kernel_rfl) (fun _ _ => by kernel_rfl) ?_
      with_reducible refine q_val (.pointer (some ⟨V, 0, none⟩)) (by kernel_rfl) (fun _ _ => by kernel_rfl) ?_
      with_reducible refine q_val (.pointer (some ⟨V, 25, none⟩)) (by kernel_rfl) (fun _ _ => by kernel_rfl) ?_
      with_reducible refine q_load 3 (.tmp 17) (.pointer (some ⟨V, 25, none⟩)) (.int .i64 (p : Nat)) rfl (by kernel_rfl) (by kernel_rfl) (fun _ h => kloadi _ _ _ _ h.fill) ?_
      with_reducible refine q_val (.int .u8 (x : Nat)) (by kernel_rfl) (fun _ _ => by kernel_rfl) ?_
      with_reducible refine wpQuiet_nil ?_
      intro w1 hCx
      simp only [Act.put, List.setIfInBounds_toArray, List.set_cons_succ, List.set_cons_zero]
      have H1 := Lib.hid hCx
      clear hCx H cx
      go_wp2_with fail
      refine (kxb p x hp136 HX.out _ H1.out.row).mono ?_
      rintro e u ⟨rfl, h⟩
      have H2 := Lib.hid (show CW w V (xby v p x) p u from ⟨H1.out.bt.trans h.bt, h.row⟩)
      clear H1 h
      have c25 := H2.out.fill
      have f25 := frozen_of_row _ _ 25 _ _ H2.out.row
      have hp0 : (0 : Int) ≤ p := by omega
      have hp1 : (p : Int) < 136 := by omega
      have hs := H2.out.setn (p + 1)
      rw [show (((p + 1 : Nat) : Int)) = (p : Int) + 1 by omega] at hs
      obtain ⟨u2, hu2⟩ : ∃ z, u.setCell ⟨V, 25, none⟩ (.int .i64 ((p : Int) + 1)) = z := ⟨_, rfl⟩
      rw [hu2] at hs
      have c26 : u2.cell? ⟨V, 25, none⟩ = some (.int .i64 ((p : Int) + 1)) := by
        have := hs.fill
        rwa [show (((p + 1 : Nat) : Int)) = (p : Int) + 1 by omega] at this
      have H3 := Lib.hid hs
      clear hs
      by_cases h136 : p + 1 = 136
      · have ht : ((p : Int) + 1 == 136) = true := by simp; omega
        go_wp2_with fail
        refine (kperm _ (HT.out.1.bt HT.out.2 H3.out.bt) HT.out.2 H3.out.row).mono ?_
        rintro e u3 ⟨rfl, h⟩
        have H4 := Lib.hid (show CW w V (kpm rcT 24 (xby v p x)) (p + 1) u3 from ⟨H3.out.bt.trans h.bt, h.row⟩)
        clear H2 H3 h c25 c26 f25 hu2
        have c25 := H4.out.fill
        have f25 := frozen_of_row _ _ 25 _ _ H4.out.row
        have H5 := Lib.hid (H4.out.setn 0)
        clear H4
        go_wp2_with fail
        go_roundw
        case rel =>
          refine ⟨k + 1, by omega, by go_num, ?_⟩
          have e : (m + (k + 1)) % 136 = 0 := by have := HP.out; omega
          rw [HB.out, e, if_pos rfl]
          exact H5
        case measure => simp [intOf]; omega
      · have ht : ((p : Int) + 1 == 136) = false := by simp; omega
        go_wp2_with fail
        go_roundw
        case rel =>
          refine ⟨k + 1, by omega, by go_num, ?_⟩
          have e : (m + (k + 1)) % 136 = p + 1 := by have := HP.out; omega
          rw [HB.out, e, if_neg (by omega)]
          exact H3
        case measure => simp [intOf]; omega
    · obtain rfl : k = n := by omega
      have hlt' : ¬ (k : Int) < k := by omega
      go_wp2_with fail
      go_end0
      exact ⟨rfl, H.out⟩
/-- Bytes while they are told. -/
def bD (h : Nat → Int) (i j : Nat) : Int := if j < i then h j else 0
theorem bD_next (h : Nat → Int) (i : Nat) : updI (bD h i) i (h i) = bD h (i + 1) := by
  funext j
  unfold updI bD
  by_cases e : j = i
  · subst e; rw [if_pos rfl, if_pos (by omega)]
  · rw [if_neg e]
    by_cases e2 : j < i
    · rw [if_pos e2, if_pos (by omega)]
    · rw [if_neg e2, if_neg (by omega)]
theorem bD_32 (h : Nat → Int) : ar .u8 32 (bD h 32) = ar .u8 32 h := ar_congr fun j hj => by unfold bD; rw [if_pos hj]
theorem bD_0 (h : Nat → Int) : ar .u8 32 (bD h 0) = #[.int .u8 0, .int .u8 0, .int .u8 0, .int .u8 0, .int .u8 0, .int .u8 0, .int .u8 0, .int .u8 0, .int .u8 0, .int .u8 0, .int .u8 0, .int .u8 0, .int .u8 0, .int .u8 0, .int .u8 0, .int .u8 0, .int .u8 0, .int .u8 0, .int .u8 0, .int .u8 0, .int .u8 0, .int .u8 0, .int .u8 0, .int .u8 0, .int .u8 0, .int .u8 0, .int .u8 0, .int .u8 0, .int .u8 0, .int .u8 0, .int .u8 0, .int .u8 0] := by
  rw [ar_congr (fun j _ => show bD h 0 j = (fun _ => (0 : Int)) j by unfold bD; rw [if_neg (by omega)])]
  kernel_rfl
/-- The worlds of finish: the sponge's copy at S, the answer's place at S + 1, what is told at O. -/
structure CN (w : World) (O : Nat) (v : Nat → Int) (n : Nat) (h : Nat → Int) (wx : World) : Prop where
  old : Below w.heap.size w wx
  rs : wx.heap[w.heap.size]? = some (.cells (kr v #[.int .i64 (n : Nat)]) 46 (0, 0))
  r1 : wx.heap[w.heap.size + 1]? = some (.cells #[.int .u8 0, .int .u8 0, .int .u8 0, .int .u8 0, .int .u8 0, .int .u8 0, .int .u8 0, .int .u8 0, .int .u8 0, .int .u8 0, .int .u8 0, .int .u8 0, .int .u8 0, .int .u8 0, .int .u8 0, .int .u8 0, .int .u8 0, .int .u8 0, .int .u8 0, .int .u8 0, .int .u8 0, .int .u8 0, .int .u8 0, .int .u8 0, .int .u8 0, .int .u8 0, .int .u8 0, .int .u8 0, .int .u8 0, .int .u8 0, .int .u8 0, .int .u8 0] 25 (0, 0))
  ro : wx.heap[O]? = some (.cells (ar .u8 32 h) 25 (0, 0))
  hO : w.heap.size + 1 + 1 ≤ O
theorem CN.set {w wx : World} {O n : Nat} {v h : Nat → Int} (c : CN w O v n h wx) (j : Nat) (hj : j < 32) (y : Int) : CN w O v n (updI h j y) (wx.setCell ⟨O, j, none⟩ (.int .u8 y)) := by
  have hO := c.hO
  exact ⟨c.old.setCell (by show w.heap.size ≤ O; omega) _, (heap_setCell_other _ _ _ _ (by show w.heap.size ≠ O; omega)).trans c.rs, (heap_setCell_other _ _ _ _ (by show w.heap.size + 1 ≠ O; omega)).trans c.r1, (heap_setCell_same _ _ _ _ _ _ c.ro).trans (by rw [ar_set _ _ _ _ _ hj]), hO⟩
theorem info32 : (Tryd.prog.info? 25).map (·.size) = some 32 := by kernel_rfl
theorem kfi_start (w : World) (v : Nat → Int) (n : Nat) : CW w w.heap.size v n ((w.alloc (.cells (kr v #[.int .i64 (n : Nat)]) 46)).alloc (.cells #[.int .u8 0, .int .u8 0, .int .u8 0, .int .u8 0, .int .u8 0, .int .u8 0, .int .u8 0, .int .u8 0, .int .u8 0, .int .u8 0, .int .u8 0, .int .u8 0, .int .u8 0, .int .u8 0, .int .u8 0, .int .u8 0, .int .u8 0, .int .u8 0, .int .u8 0, .int .u8 0, .int .u8 0, .int .u8 0, .int .u8 0, .int .u8 0, .int .u8 0, .int .u8 0, .int .u8 0, .int .u8 0, .int .u8 0, .int .u8 0, .int .u8 0, .int .u8 0] 25)) ∧ ((w.alloc (.cells (kr v #[.int .i64 (n : Nat)]) 46)).alloc (.cells #[.int .u8 0, .int .u8 0, .int .u8 0, .int .u8 0, .int .u8 0, .int .u8 0, .int .u8 0, .int .u8 0, .int .u8 0, .int .u8 0, .int .u8 0, .int .u8 0, .int .u8 0, .int .u8 0, .int .u8 0, .int .u8 0, .int .u8 0, .int .u8 0, .int .u8 0, .int .u8 0, .int .u8 0, .int .u8 0, .int .u8 0, .int .u8 0, .int .u8 0, .int .u8 0, .int .u8 0, .int .u8 0, .int .u8 0, .int .u8 0, .int .u8 0, .int .u8 0] 25)).heap[w.heap.size + 1]? = some (.cells #[.int .u8 0, .int .u8 0, .int .u8 0, .int .u8 0, .int .u8 0, .int .u8 0, .int .u8 0, .int .u8 0, .int .u8 0, .int .u8 0, .int .u8 0, .int .u8 0, .int .u8 0, .int .u8 0, .int .u8 0, .int .u8 0, .int .u8 0, .int .u8 0, .int .u8 0, .int .u8 0, .int .u8 0, .int .u8 0, .int .u8 0, .int .u8 0, .int .u8 0, .int .u8 0, .int .u8 0, .int .u8 0, .int .u8 0, .int .u8 0, .int .u8 0, .int .u8 0] 25 (0, 0)) := by
  refine ⟨⟨((Bt.refl _ _).alloc _).alloc _, (heap_alloc_old _ _ (by simp)).trans (heap_alloc_new _ _)⟩, ?_⟩
  have h := heap_alloc_new (w.alloc (.cells (kr v #[.int .i64 (n : Nat)]) 46)) (.cells #[.int .u8 0, .int .u8 0, .int .u8 0, .int .u8 0, .int .u8 0, .int .u8 0, .int .u8 0, .int .u8 0, .int .u8 0, .int .u8 0, .int .u8 0, .int .u8 0, .int .u8 0, .int .u8 0, .int .u8 0, .int .u8 0, .int .u8 0, .int .u8 0, .int .u8 0, .int .u8 0, .int .u8 0, .int .u8 0, .int .u8 0, .int .u8 0, .int .u8 0, .int .u8 0, .int .u8 0, .int .u8 0, .int .u8 0, .int .u8 0, .int .u8 0, .int .u8 0] 25)
  simpa using h
set_option maxRecDepth 100000 in
set_option maxHeartbeats 4000000 in
-- WHAT finish COMES TO.
theorem kfi (v : Nat → Int) (n : Nat) (hn : n < 136) (w : World) (hT : KTab w) :
    Calls Tryd.prog 25 #[.agg (kr v #[.int .i64 (n : Nat)])] w fun e w' => e = .returned (.agg (ar .u8 32 (byt (kpm rcT 24 (xby (xby v n 1) 135 128))))) ∧ Below w.heap.size w w' := by
  have HS := kfi_start w v n
  have H0 := Lib.hid HS.1
  have HT := Lib.hid (And.intro hT (apt_of hT (Nat.le_refl _)))
  have hrs := HS.2
  have HR := Lib.hid hrs
  have hsz : ((w.alloc (.cells (kr v #[.int .i64 (n : Nat)]) 46)).alloc (.cells #[.int .u8 0, .int .u8 0, .int .u8 0, .int .u8 0, .int .u8 0, .int .u8 0, .int .u8 0, .int .u8 0, .int .u8 0, .int .u8 0, .int .u8 0, .int .u8 0, .int .u8 0, .int .u8 0, .int .u8 0, .int .u8 0, .int .u8 0, .int .u8 0, .int .u8 0, .int .u8 0, .int .u8 0, .int .u8 0, .int .u8 0, .int .u8 0, .int .u8 0, .int .u8 0, .int .u8 0, .int .u8 0, .int .u8 0, .int .u8 0, .int .u8 0, .int .u8 0] 25)).heap.size = w.heap.size + 1 + 1 := by simp
  have cf := H0.out.fill
  have HI : ∀ f, Hid ((Tryd.prog.info? 25).map (·.size) = some (ar .u8 32 f).size) := fun f => Lib.hid (by rw [ar_size]; exact info32)
  obtain ⟨w1, hw1⟩ : ∃ z, (w.alloc (.cells (kr v #[.int .i64 (n : Nat)]) 46)).alloc (.cells #[.int .u8 0, .int .u8 0, .int .u8 0, .int .u8 0, .int .u8 0, .int .u8 0, .int .u8 0, .int .u8 0, .int .u8 0, .int .u8 0, .int .u8 0, .int .u8 0, .int .u8 0, .int .u8 0, .int .u8 0, .int .u8 0, .int .u8 0, .int .u8 0, .int .u8 0, .int .u8 0, .int .u8 0, .int .u8 0, .int .u8 0, .int .u8 0, .int .u8 0, .int .u8 0, .int .u8 0, .int .u8 0, .int .u8 0, .int .u8 0, .int .u8 0, .int .u8 0] 25) = z := ⟨_, rfl⟩
  have HB0 := Lib.hid (show Below w.heap.size w w1 from by rw [← hw1]; go_grown)
  rw [hw1] at H0 HR hsz cf
  have HSZ := Lib.hid hsz
  clear HS hrs hT hsz
  go_enter Tryd.func25, Tryd.ntmps25
  go_wp2_with fail
  refine (kxb n 1 hn (by decide) _ H0.out.row).mono ?_
  rintro e u ⟨rfl, h⟩
  have H1 := Lib.hid (show CW w1 w.heap.size (xby v n 1) n u from h)
  clear h H0 cf
  go_wp2_with fail
  refine (kxb 135 128 (by decide) (by decide) _ H1.out.row).mono ?_
  rintro e u2 ⟨rfl, h⟩
  have H2 := Lib.hid (show CW w1 w.heap.size (xby (xby v n 1) 135 128) n u2 from ⟨H1.out.bt.trans h.bt, h.row⟩)
  clear h H1
  have KT := (HT.out.1.below (Below.mono HB0.out (Nat.le_refl _))).bt HT.out.2 H2.out.bt
  go_wp2_with fail
  refine (kperm _ KT HT.out.2 H2.out.row).mono ?_
  rintro e u3 ⟨rfl, h⟩
  obtain ⟨z, hz⟩ : ∃ z, kpm rcT 24 (xby (xby v n 1) 135 128) = z := ⟨_, rfl⟩
  rw [hz] at h
  have HZ := Lib.hid hz
  have H3 := Lib.hid (show CW w1 w.heap.size z n u3 from ⟨H2.out.bt.trans h.bt, h.row⟩)
  clear h H2 KT hz
  obtain ⟨O, hO⟩ : ∃ O, u3.heap.size = O := ⟨_, rfl⟩
  have hO2 : w.heap.size + 1 + 1 ≤ O := by have := H3.out.bt.size; have := HSZ.out; omega
  have H4 := Lib.hid (show CN w O z n (bD (byt z) 0) (u3.alloc (.cells #[.int .u8 0, .int .u8 0, .int .u8 0, .int .u8 0, .int .u8 0, .int .u8 0, .int .u8 0, .int .u8 0, .int .u8 0, .int .u8 0, .int .u8 0, .int .u8 0, .int .u8 0, .int .u8 0, .int .u8 0, .int .u8 0, .int .u8 0, .int .u8 0, .int .u8 0, .int .u8 0, .int .u8 0, .int .u8 0, .int .u8 0, .int .u8 0, .int .u8 0, .int .u8 0, .int .u8 0, .int .u8 0, .int .u8 0, .int .u8 0, .int .u8 0, .int .u8 0] 25)) from by
    refine ⟨(H3.out.bt.below HB0.out (Nat.le_refl _) (by have := HSZ.out; omega)).alloc (by omega) _, (heap_alloc_old _ _ (by omega)).trans H3.out.row, (heap_alloc_old _ _ (by omega)).trans ((H3.out.bt.block _ (by omega) (by have := HSZ.out; omega)).trans HR.out), ?_, hO2⟩
    rw [bD_0, ← hO]
    exact heap_alloc_new _ _)
  clear H3 HR hw1
  go_wp2_with fail
  go_loopw [13] (fun i wr => ∃ k : Nat, k ≤ 32 ∧ i = .int .i64 k ∧ Hid (CN w O z n (bD (byt z) k) wr)) (fun i _ => 32 - (intOf i).toNat)
  case atStart => exact ⟨0, by omega, rfl, H4⟩
  case round =>
    obtain ⟨k, hk, rfl, H⟩ := hrel
    clear H4 hO
    have hk0 : (0 : Int) ≤ k := by omega
    by_cases hlt : k < 32
    · have hlt' : (k : Int) < 32 := by omega
      have HK := Lib.hid hlt
      go_wp2_with fail
      refine (kba k hlt _ H.out.rs).mono ?_
      rintro e u4 ⟨rfl, rfl⟩
      have HN := Lib.hid (bD_next (byt z) k)
      obtain ⟨y, hy⟩ : ∃ y, byt z k = y := ⟨_, rfl⟩
      rw [hy] at HN ⊢
      clear hy
      have co := (cell_of_row u4 _ k _ _ _ H.out.ro).trans (ar_at _ _ _ _ hlt)
      have fo := frozen_of_row _ _ k _ _ H.out.ro
      have H5 := H.out.set k HK.out y
      rw [HN.out] at H5
      have H6 := Lib.hid H5
      clear H5
      go_wp2_with fail
      go_roundw
      case rel => exact ⟨k + 1, by omega, by go_num, H6⟩
      case measure => simp [intOf]; omega
    · obtain rfl : k = 32 := by omega
      have hr := H.out.ro
      rw [bD_32] at hr
      have HB := Lib.hid (And.intro H.out.old (And.intro hr H.out.r1))
      clear hr H
      have HE := Lib.hid (show byt (kpm rcT 24 (xby (xby v n 1) 135 128)) = byt z from by rw [HZ.out])
      obtain ⟨y, hy⟩ : ∃ y, byt z = y := ⟨_, rfl⟩
      rw [hy] at HB HE
      clear hy
      go_wp2_with (first | (refine wpList_load_row rfl 25 _ rfl O rfl 25 _ (0, 0) _ HB.out.2.1 Tryd.underlying25 rfl (HI y).out ?_) | (refine wpList_store_row rfl 25 _ _ rfl (w.heap.size + 1) (ar .u8 32 y) rfl rfl 25 _ HB.out.2.2 (HI y).out (by rw [ar_size]; rfl) (ar_one _ _ _) ?_))
      refine bodyPost_ret (v := .agg (ar .u8 32 y)) (results_cell_row (p := 2) rfl _ _ (w.heap.size + 1) 25 _ (0, 0) _ rfl (setRow_heap _ _ _ _ _ _ HB.out.2.2) Tryd.underlying25 rfl (HI y).out) rfl ⟨by rw [HE.out], below_setRow HB.out.1 (by omega) _⟩
end Go.Proofs.YtcmpnnfnkcmpcaaDoor
namespace Go.Proofs.YtcmpnnfnkcmpcaaDoor
open Go.RowKit

theorem kz_row : kr (fun _ => 0) #[.int .i64 ((0 : Nat) : Int)] = #[.int .u64 0, .int .u64 0, .int .u64 0, .int .u64 0, .int .u64 0, .int .u64 0, .int .u64 0, .int .u64 0, .int .u64 0, .int .u64 0, .int .u64 0, .int .u64 0, .int .u64 0, .int .u64 0, .int .u64 0, .int .u64 0, .int .u64 0, .int .u64 0, .int .u64 0, .int .u64 0, .int .u64 0, .int .u64 0, .int .u64 0, .int .u64 0, .int .u64 0, .int .i64 0] := by kernel_rfl
theorem kz_val : (.agg #[.int .u64 0, .int .u64 0, .int .u64 0, .int .u64 0, .int .u64 0, .int .u64 0, .int .u64 0, .int .u64 0, .int .u64 0, .int .u64 0, .int .u64 0, .int .u64 0, .int .u64 0, .int .u64 0, .int .u64 0, .int .u64 0, .int .u64 0, .int .u64 0, .int .u64 0, .int .u64 0, .int .u64 0, .int .u64 0, .int .u64 0, .int .u64 0, .int .u64 0, .int .i64 0] : Value) = .agg (kr (fun _ => 0) #[.int .i64 ((0 : Nat) : Int)]) := by rw [kz_row]
theorem info26 : (Tryd.prog.info? 46).map (·.size) = some 26 := by kernel_rfl
theorem infoS : (Tryd.prog.info? 44).map (·.size) = some 25 := by kernel_rfl
theorem infoP : (Tryd.prog.info? 35).map (·.size) = some 25 := by kernel_rfl
theorem kr_info (v : Nat → Int) (n : Nat) : (Tryd.prog.info? 46).map (·.size) = some (kr v #[.int .i64 (n : Nat)]).size := by
  rw [kr_size]
  exact info26
theorem ksum_start (w : World) : ((w.alloc (.cells #[.int .u8 0, .int .u8 0, .int .u8 0, .int .u8 0, .int .u8 0, .int .u8 0, .int .u8 0, .int .u8 0, .int .u8 0, .int .u8 0, .int .u8 0, .int .u8 0, .int .u8 0, .int .u8 0, .int .u8 0, .int .u8 0, .int .u8 0, .int .u8 0, .int .u8 0, .int .u8 0, .int .u8 0, .int .u8 0, .int .u8 0, .int .u8 0, .int .u8 0, .int .u8 0, .int .u8 0, .int .u8 0, .int .u8 0, .int .u8 0, .int .u8 0, .int .u8 0] 25)).alloc (.cells #[.int .u64 0, .int .u64 0, .int .u64 0, .int .u64 0, .int .u64 0, .int .u64 0, .int .u64 0, .int .u64 0, .int .u64 0, .int .u64 0, .int .u64 0, .int .u64 0, .int .u64 0, .int .u64 0, .int .u64 0, .int .u64 0, .int .u64 0, .int .u64 0, .int .u64 0, .int .u64 0, .int .u64 0, .int .u64 0, .int .u64 0, .int .u64 0, .int .u64 0, .int .i64 0] 46)).heap[w.heap.size + 1]? = some (.cells (kr (fun _ => 0) #[.int .i64 ((0 : Nat) : Int)]) 46 (0, 0)) ∧ ((w.alloc (.cells #[.int .u8 0, .int .u8 0, .int .u8 0, .int .u8 0, .int .u8 0, .int .u8 0, .int .u8 0, .int .u8 0, .int .u8 0, .int .u8 0, .int .u8 0, .int .u8 0, .int .u8 0, .int .u8 0, .int .u8 0, .int .u8 0, .int .u8 0, .int .u8 0, .int .u8 0, .int .u8 0, .int .u8 0, .int .u8 0, .int .u8 0, .int .u8 0, .int .u8 0, .int .u8 0, .int .u8 0, .int .u8 0, .int .u8 0, .int .u8 0, .int .u8 0, .int .u8 0] 25)).alloc (.cells #[.int .u64 0, .int .u64 0, .int .u64 0, .int .u64 0, .int .u64 0, .int .u64 0, .int .u64 0, .int .u64 0, .int .u64 0, .int .u64 0, .int .u64 0, .int .u64 0, .int .u64 0, .int .u64 0, .int .u64 0, .int .u64 0, .int .u64 0, .int .u64 0, .int .u64 0, .int .u64 0, .int .u64 0, .int .u64 0, .int .u64 0, .int .u64 0, .int .u64 0, .int .i64 0] 46)).heap[w.heap.size]? = some (.cells #[.int .u8 0, .int .u8 0, .int .u8 0, .int .u8 0, .int .u8 0, .int .u8 0, .int .u8 0, .int .u8 0, .int .u8 0, .int .u8 0, .int .u8 0, .int .u8 0, .int .u8 0, .int .u8 0, .int .u8 0, .int .u8 0, .int .u8 0, .int .u8 0, .int .u8 0, .int .u8 0, .int .u8 0, .int .u8 0, .int .u8 0, .int .u8 0, .int .u8 0, .int .u8 0, .int .u8 0, .int .u8 0, .int .u8 0, .int .u8 0, .int .u8 0, .int .u8 0] 25 (0, 0)) := by
  refine ⟨?_, (heap_alloc_old _ _ (by simp)).trans (heap_alloc_new _ _)⟩
  have h := heap_alloc_new (w.alloc (.cells #[.int .u8 0, .int .u8 0, .int .u8 0, .int .u8 0, .int .u8 0, .int .u8 0, .int .u8 0, .int .u8 0, .int .u8 0, .int .u8 0, .int .u8 0, .int .u8 0, .int .u8 0, .int .u8 0, .int .u8 0, .int .u8 0, .int .u8 0, .int .u8 0, .int .u8 0, .int .u8 0, .int .u8 0, .int .u8 0, .int .u8 0, .int .u8 0, .int .u8 0, .int .u8 0, .int .u8 0, .int .u8 0, .int .u8 0, .int .u8 0, .int .u8 0, .int .u8 0] 25)) (.cells #[.int .u64 0, .int .u64 0, .int .u64 0, .int .u64 0, .int .u64 0, .int .u64 0, .int .u64 0, .int .u64 0, .int .u64 0, .int .u64 0, .int .u64 0, .int .u64 0, .int .u64 0, .int .u64 0, .int .u64 0, .int .u64 0, .int .u64 0, .int .u64 0, .int .u64 0, .int .u64 0, .int .u64 0, .int .u64 0, .int .u64 0, .int .u64 0, .int .u64 0, .int .i64 0] 46)
  rw [kz_row]
  simpa using h
set_option maxRecDepth 100000 in
set_option maxHeartbeats 4000000 in
-- WHAT Sum COMES TO.
theorem ksum {n : Nat} {f : Nat → Nat} {v : Value} {w : World} (hn : n < 1125899906842624) (hf : ∀ j, f j < 256) (hT : KTab w) (hP : ArgB w v n f) : Calls Tryd.prog 10 #[v] w fun e w' => e = .returned (.agg (ar .u8 32 (ksh f n))) ∧ Below w.heap.size w w' := by
  obtain ⟨a, cap, rfl, hc, hn0, hr⟩ := hP
  have hb1 : Below w.heap.size w ((w.alloc (.cells #[.int .u8 0, .int .u8 0, .int .u8 0, .int .u8 0, .int .u8 0, .int .u8 0, .int .u8 0, .int .u8 0, .int .u8 0, .int .u8 0, .int .u8 0, .int .u8 0, .int .u8 0, .int .u8 0, .int .u8 0, .int .u8 0, .int .u8 0, .int .u8 0, .int .u8 0, .int .u8 0, .int .u8 0, .int .u8 0, .int .u8 0, .int .u8 0, .int .u8 0, .int .u8 0, .int .u8 0, .int .u8 0, .int .u8 0, .int .u8 0, .int .u8 0, .int .u8 0] 25)).alloc (.cells #[.int .u64 0, .int .u64 0, .int .u64 0, .int .u64 0, .int .u64 0, .int .u64 0, .int .u64 0, .int .u64 0, .int .u64 0, .int .u64 0, .int .u64 0, .int .u64 0, .int .u64 0, .int .u64 0, .int .u64 0, .int .u64 0, .int .u64 0, .int .u64 0, .int .u64 0, .int .u64 0, .int .u64 0, .int .u64 0, .int .u64 0, .int .u64 0, .int .u64 0, .int .i64 0] 46)) := by go_grown
  have HS := ksum_start w
  have hsz : ((w.alloc (.cells #[.int .u8 0, .int .u8 0, .int .u8 0, .int .u8 0, .int .u8 0, .int .u8 0, .int .u8 0, .int .u8 0, .int .u8 0, .int .u8 0, .int .u8 0, .int .u8 0, .int .u8 0, .int .u8 0, .int .u8 0, .int .u8 0, .int .u8 0, .int .u8 0, .int .u8 0, .int .u8 0, .int .u8 0, .int .u8 0, .int .u8 0, .int .u8 0, .int .u8 0, .int .u8 0, .int .u8 0, .int .u8 0, .int .u8 0, .int .u8 0, .int .u8 0, .int .u8 0] 25)).alloc (.cells #[.int .u64 0, .int .u64 0, .int .u64 0, .int .u64 0, .int .u64 0, .int .u64 0, .int .u64 0, .int .u64 0, .int .u64 0, .int .u64 0, .int .u64 0, .int .u64 0, .int .u64 0, .int .u64 0, .int .u64 0, .int .u64 0, .int .u64 0, .int .u64 0, .int .u64 0, .int .u64 0, .int .u64 0, .int .u64 0, .int .u64 0, .int .u64 0, .int .u64 0, .int .i64 0] 46)).heap.size = w.heap.size + 1 + 1 := by simp
  have hT1 := hT.below (Below.mono hb1 (Nat.le_refl _))
  have WR := Lib.hid (kwr (V := w.heap.size + 1) (m := 0) (n := n) (f := f) a cap hn hf _ hT1 (apt_of hT (by omega)) (sep_of hr (by omega)) (by simpa using hr.below hb1) HS.1)
  obtain ⟨w1, hw1⟩ : ∃ z, (w.alloc (.cells #[.int .u8 0, .int .u8 0, .int .u8 0, .int .u8 0, .int .u8 0, .int .u8 0, .int .u8 0, .int .u8 0, .int .u8 0, .int .u8 0, .int .u8 0, .int .u8 0, .int .u8 0, .int .u8 0, .int .u8 0, .int .u8 0, .int .u8 0, .int .u8 0, .int .u8 0, .int .u8 0, .int .u8 0, .int .u8 0, .int .u8 0, .int .u8 0, .int .u8 0, .int .u8 0, .int .u8 0, .int .u8 0, .int .u8 0, .int .u8 0, .int .u8 0, .int .u8 0] 25)).alloc (.cells #[.int .u64 0, .int .u64 0, .int .u64 0, .int .u64 0, .int .u64 0, .int .u64 0, .int .u64 0, .int .u64 0, .int .u64 0, .int .u64 0, .int .u64 0, .int .u64 0, .int .u64 0, .int .u64 0, .int .u64 0, .int .u64 0, .int .u64 0, .int .u64 0, .int .u64 0, .int .u64 0, .int .u64 0, .int .u64 0, .int .u64 0, .int .u64 0, .int .u64 0, .int .i64 0] 46) = z := ⟨_, rfl⟩
  rw [hw1] at WR HS hsz hb1 hT1
  have H0 := Lib.hid (And.intro hb1 (And.intro hsz (And.intro HS.2 (And.intro hT1 hT))))
  have HI : ∀ f, Hid ((Tryd.prog.info? 25).map (·.size) = some (ar .u8 32 f).size) := fun f => Lib.hid (by rw [ar_size]; exact info32)
  clear HS hsz hb1 hT1 hT hr hn0 hf hc
  go_enter Tryd.func10, Tryd.ntmps10
  go_wp2_with fail
  refine WR.out.mono ?_
  rintro e u ⟨rfl, h⟩
  rw [Nat.zero_add] at h
  have H1 := Lib.hid h
  clear h WR hw1
  obtain ⟨k, hk⟩ : ∃ k, n % 136 = k := ⟨_, rfl⟩
  obtain ⟨s, hs⟩ : ∃ s, ab f n = s := ⟨_, rfl⟩
  have HK := Lib.hid (show ksh f n = byt (kpm rcT 24 (xby (xby s k 1) 135 128)) from by unfold ksh fin; rw [hk, hs])
  rw [hk, hs] at H1
  have hb2 : Below w.heap.size w u := H1.out.bt.below H0.out.1 (by omega) (by have := H0.out.2.1; omega)
  have HB := Lib.hid hb2
  have hru := (H1.out.bt.block w.heap.size (by omega) (by have := H0.out.2.1; omega)).trans H0.out.2.2.1
  have HRU := Lib.hid hru
  have FI := Lib.hid (kfi s k (by omega) u (H0.out.2.2.2.2.below (Below.mono hb2 (Nat.le_refl _))))
  have HR1 := Lib.hid H1.out.row
  have HI2 := Lib.hid (kr_info s k)
  obtain ⟨y, hy⟩ : ∃ y, byt (kpm rcT 24 (xby (xby s k 1) 135 128)) = y := ⟨_, rfl⟩
  rw [hy] at FI HK
  obtain ⟨row, hrow⟩ : ∃ r, kr s #[.int .i64 (k : Nat)] = r := ⟨_, rfl⟩
  rw [hrow] at HR1 HI2 FI
  clear hk hs hb2 hru H1 hy hrow
  go_wp2_with (refine wpList_load_row rfl 46 _ rfl (w.heap.size + 1) rfl 46 _ (0, 0) _ HR1.out Tryd.underlying46 rfl HI2.out ?_)
  refine FI.out.mono ?_
  rintro e u2 ⟨rfl, hb⟩
  have HB2 := Lib.hid (HB.out.trans (hb.mono HB.out.size))
  have hr2 := (hb.block w.heap.size (by have := (Array.getElem?_eq_some_iff.1 HRU.out).1; omega)).trans HRU.out
  have HR2 := Lib.hid hr2
  clear hb hr2 FI HR1
  go_wp2_with (refine wpList_store_row rfl 25 _ _ rfl w.heap.size (ar .u8 32 y) rfl rfl 25 _ HR2.out (HI y).out (by rw [ar_size]; rfl) (ar_one _ _ _) ?_)
  refine bodyPost_ret (v := .agg (ar .u8 32 y)) (results_cell_row (p := 2) rfl _ _ w.heap.size 25 _ (0, 0) _ rfl (setRow_heap _ _ _ _ _ _ HR2.out) Tryd.underlying25 rfl (HI y).out) rfl ⟨by rw [HK.out], below_setRow HB2.out (by omega) _⟩
set_option maxRecDepth 100000 in
set_option maxHeartbeats 4000000 in
-- WHAT A SPONGE'S Sum COMES TO.
theorem kssum {V : Nat} {v : Nat → Int} (n : Nat) (hn : n < 136) (w : World) (hT : KTab w) (hw : w.heap[V]? = some (.cells (kr v #[.int .i64 (n : Nat)]) 46 (0, 0))) :
    Calls Tryd.prog 13 #[.pointer (some ⟨V, 0, none⟩)] w fun e w' => e = .returned (.agg (ar .u8 32 (byt (kpm rcT 24 (xby (xby v n 1) 135 128))))) ∧ Below w.heap.size w w' := by
  have hV : V < w.heap.size := (Array.getElem?_eq_some_iff.1 hw).1
  have hb1 : Below w.heap.size w (w.alloc (.cells #[.int .u8 0, .int .u8 0, .int .u8 0, .int .u8 0, .int .u8 0, .int .u8 0, .int .u8 0, .int .u8 0, .int .u8 0, .int .u8 0, .int .u8 0, .int .u8 0, .int .u8 0, .int .u8 0, .int .u8 0, .int .u8 0, .int .u8 0, .int .u8 0, .int .u8 0, .int .u8 0, .int .u8 0, .int .u8 0, .int .u8 0, .int .u8 0, .int .u8 0, .int .u8 0, .int .u8 0, .int .u8 0, .int .u8 0, .int .u8 0, .int .u8 0, .int .u8 0] 25)) := by go_grown
  have FI := Lib.hid (kfi v n hn (w.alloc (.cells #[.int .u8 0, .int .u8 0, .int .u8 0, .int .u8 0, .int .u8 0, .int .u8 0, .int .u8 0, .int .u8 0, .int .u8 0, .int .u8 0, .int .u8 0, .int .u8 0, .int .u8 0, .int .u8 0, .int .u8 0, .int .u8 0, .int .u8 0, .int .u8 0, .int .u8 0, .int .u8 0, .int .u8 0, .int .u8 0, .int .u8 0, .int .u8 0, .int .u8 0, .int .u8 0, .int .u8 0, .int .u8 0, .int .u8 0, .int .u8 0, .int .u8 0, .int .u8 0] 25)) (hT.below hb1))
  have HR1 := Lib.hid ((heap_alloc_old w (.cells #[.int .u8 0, .int .u8 0, .int .u8 0, .int .u8 0, .int .u8 0, .int .u8 0, .int .u8 0, .int .u8 0, .int .u8 0, .int .u8 0, .int .u8 0, .int .u8 0, .int .u8 0, .int .u8 0, .int .u8 0, .int .u8 0, .int .u8 0, .int .u8 0, .int .u8 0, .int .u8 0, .int .u8 0, .int .u8 0, .int .u8 0, .int .u8 0, .int .u8 0, .int .u8 0, .int .u8 0, .int .u8 0, .int .u8 0, .int .u8 0, .int .u8 0, .int .u8 0] 25) hV).trans hw)
  have HRU := Lib.hid (heap_alloc_new w (.cells #[.int .u8 0, .int .u8 0, .int .u8 0, .int .u8 0, .int .u8 0, .int .u8 0, .int .u8 0, .int .u8 0, .int .u8 0, .int .u8 0, .int .u8 0, .int .u8 0, .int .u8 0, .int .u8 0, .int .u8 0, .int .u8 0, .int .u8 0, .int .u8 0, .int .u8 0, .int .u8 0, .int .u8 0, .int .u8 0, .int .u8 0, .int .u8 0, .int .u8 0, .int .u8 0, .int .u8 0, .int .u8 0, .int .u8 0, .int .u8 0, .int .u8 0, .int .u8 0] 25))
  have HI2 := Lib.hid (kr_info v n)
  have HI : ∀ f, Hid ((Tryd.prog.info? 25).map (·.size) = some (ar .u8 32 f).size) := fun f => Lib.hid (by rw [ar_size]; exact info32)
  have HB := Lib.hid hb1
  obtain ⟨y, hy⟩ : ∃ y, byt (kpm rcT 24 (xby (xby v n 1) 135 128)) = y := ⟨_, rfl⟩
  rw [hy] at FI ⊢
  obtain ⟨row, hrow⟩ : ∃ r, kr v #[.int .i64 (n : Nat)] = r := ⟨_, rfl⟩
  rw [hrow] at HR1 HI2 FI
  clear hw hV hb1 hT hy hrow hn
  go_enter Tryd.func13, Tryd.ntmps13
  go_wp2_with (refine wpList_load_row rfl 46 _ rfl V rfl 46 _ (0, 0) _ HR1.out Tryd.underlying46 rfl HI2.out ?_)
  refine FI.out.mono ?_
  rintro e u2 ⟨rfl, hb⟩
  have HB2 := Lib.hid (HB.out.trans (hb.mono HB.out.size))
  have hr2 := (hb.block w.heap.size (by simp)).trans HRU.out
  have HR2 := Lib.hid hr2
  clear hb hr2 FI HR1
  go_wp2_with (refine wpList_store_row rfl 25 _ _ rfl w.heap.size (ar .u8 32 y) rfl rfl 25 _ HR2.out (HI y).out (by rw [ar_size]; rfl) (ar_one _ _ _) ?_)
  refine bodyPost_ret (v := .agg (ar .u8 32 y)) (results_cell_row (p := 2) rfl _ _ w.heap.size 25 _ (0, 0) _ rfl (setRow_heap _ _ _ _ _ _ HR2.out) Tryd.underlying25 rfl (HI y).out) rfl ⟨rfl, below_setRow HB2.out (by omega) _⟩
set_option maxRecDepth 100000 in
-- WHAT New COMES TO.
theorem knew (w : World) : Calls Tryd.prog 9 #[] w fun e w' => e = .returned (.pointer (some ⟨w.heap.size, 0, none⟩)) ∧ w'.heap[w.heap.size]? = some (.cells (kr (fun _ => 0) #[.int .i64 ((0 : Nat) : Int)]) 46 (0, 0)) ∧ Below w.heap.size w w' := by
  have hr := heap_alloc_new w (.cells #[.int .u64 0, .int .u64 0, .int .u64 0, .int .u64 0, .int .u64 0, .int .u64 0, .int .u64 0, .int .u64 0, .int .u64 0, .int .u64 0, .int .u64 0, .int .u64 0, .int .u64 0, .int .u64 0, .int .u64 0, .int .u64 0, .int .u64 0, .int .u64 0, .int .u64 0, .int .u64 0, .int .u64 0, .int .u64 0, .int .u64 0, .int .u64 0, .int .u64 0, .int .i64 0] 46)
  rw [← kz_row] at hr
  have HR := Lib.hid hr
  have HB := Lib.hid (show Below w.heap.size w (w.alloc (.cells (kr (fun _ => 0) #[.int .i64 ((0 : Nat) : Int)]) 46)) by go_grown)
  rw [kz_row] at HB
  clear hr
  go_enter Tryd.func9, Tryd.ntmps9
  go_wp2
  go_ret
  refine ⟨rfl, ?_, HB.out⟩
  have h := HR.out
  rw [kz_row] at h ⊢
  exact h
set_option maxRecDepth 100000 in
set_option maxHeartbeats 4000000 in
-- WHAT Reset COMES TO.
theorem krst {V n : Nat} {v : Nat → Int} (w : World) (hw : w.heap[V]? = some (.cells (kr v #[.int .i64 (n : Nat)]) 46 (0, 0))) :
    Calls Tryd.prog 12 #[.pointer (some ⟨V, 0, none⟩)] w fun e w' => e = .returned (.tuple #[]) ∧ CW w V (fun _ => 0) 0 w' := by
  have HV := Lib.hid kz_val
  have HI := Lib.hid (kr_info (fun _ => 0) 0)
  have HW := Lib.hid hw
  clear hw
  have HX := Lib.hid (show CW w V (fun _ => 0) 0 (w.setRow V (kr (fun _ => 0) #[.int .i64 ((0 : Nat) : Int)])) from
    ⟨⟨rfl, rfl, rfl, by simp, fun k hk _ => setRow_other _ _ _ _ hk⟩, setRow_heap _ _ _ _ _ _ HW.out⟩)
  go_enter Tryd.func12, Tryd.ntmps12
  go_wp2_with (refine wpList_store_row rfl 46 _ _ rfl V (kr (fun _ => 0) #[.int .i64 ((0 : Nat) : Int)]) rfl HV.out 46 _ HW.out HI.out (by rw [kr_size, kr_size]; rfl) (kr_one _ _) ?_)
  go_end0
  exact ⟨rfl, HX.out⟩
theorem kp_start (w : World) (s : Nat → Int) : ((((w.alloc (.cells (ar .u64 25 s) 35)).alloc (.cells #[.int .u64 0, .int .u64 0, .int .u64 0, .int .u64 0, .int .u64 0, .int .u64 0, .int .u64 0, .int .u64 0, .int .u64 0, .int .u64 0, .int .u64 0, .int .u64 0, .int .u64 0, .int .u64 0, .int .u64 0, .int .u64 0, .int .u64 0, .int .u64 0, .int .u64 0, .int .u64 0, .int .u64 0, .int .u64 0, .int .u64 0, .int .u64 0, .int .u64 0] 35)).alloc (.cells #[.int .u64 0, .int .u64 0, .int .u64 0, .int .u64 0, .int .u64 0, .int .u64 0, .int .u64 0, .int .u64 0, .int .u64 0, .int .u64 0, .int .u64 0, .int .u64 0, .int .u64 0, .int .u64 0, .int .u64 0, .int .u64 0, .int .u64 0, .int .u64 0, .int .u64 0, .int .u64 0, .int .u64 0, .int .u64 0, .int .u64 0, .int .u64 0, .int .u64 0] 44)).setRow (w.heap.size + 1 + 1) (ar .u64 25 s)).heap[w.heap.size + 1 + 1]? = some (.cells (ar .u64 25 s) 44 (0, 0)) ∧ ((((w.alloc (.cells (ar .u64 25 s) 35)).alloc (.cells #[.int .u64 0, .int .u64 0, .int .u64 0, .int .u64 0, .int .u64 0, .int .u64 0, .int .u64 0, .int .u64 0, .int .u64 0, .int .u64 0, .int .u64 0, .int .u64 0, .int .u64 0, .int .u64 0, .int .u64 0, .int .u64 0, .int .u64 0, .int .u64 0, .int .u64 0, .int .u64 0, .int .u64 0, .int .u64 0, .int .u64 0, .int .u64 0, .int .u64 0] 35)).alloc (.cells #[.int .u64 0, .int .u64 0, .int .u64 0, .int .u64 0, .int .u64 0, .int .u64 0, .int .u64 0, .int .u64 0, .int .u64 0, .int .u64 0, .int .u64 0, .int .u64 0, .int .u64 0, .int .u64 0, .int .u64 0, .int .u64 0, .int .u64 0, .int .u64 0, .int .u64 0, .int .u64 0, .int .u64 0, .int .u64 0, .int .u64 0, .int .u64 0, .int .u64 0] 44)).setRow (w.heap.size + 1 + 1) (ar .u64 25 s)).heap[w.heap.size + 1]? = some (.cells #[.int .u64 0, .int .u64 0, .int .u64 0, .int .u64 0, .int .u64 0, .int .u64 0, .int .u64 0, .int .u64 0, .int .u64 0, .int .u64 0, .int .u64 0, .int .u64 0, .int .u64 0, .int .u64 0, .int .u64 0, .int .u64 0, .int .u64 0, .int .u64 0, .int .u64 0, .int .u64 0, .int .u64 0, .int .u64 0, .int .u64 0, .int .u64 0, .int .u64 0] 35 (0, 0)) ∧ Below w.heap.size w ((((w.alloc (.cells (ar .u64 25 s) 35)).alloc (.cells #[.int .u64 0, .int .u64 0, .int .u64 0, .int .u64 0, .int .u64 0, .int .u64 0, .int .u64 0, .int .u64 0, .int .u64 0, .int .u64 0, .int .u64 0, .int .u64 0, .int .u64 0, .int .u64 0, .int .u64 0, .int .u64 0, .int .u64 0, .int .u64 0, .int .u64 0, .int .u64 0, .int .u64 0, .int .u64 0, .int .u64 0, .int .u64 0, .int .u64 0] 35)).alloc (.cells #[.int .u64 0, .int .u64 0, .int .u64 0, .int .u64 0, .int .u64 0, .int .u64 0, .int .u64 0, .int .u64 0, .int .u64 0, .int .u64 0, .int .u64 0, .int .u64 0, .int .u64 0, .int .u64 0, .int .u64 0, .int .u64 0, .int .u64 0, .int .u64 0, .int .u64 0, .int .u64 0, .int .u64 0, .int .u64 0, .int .u64 0, .int .u64 0, .int .u64 0] 44)).setRow (w.heap.size + 1 + 1) (ar .u64 25 s)) ∧ (((w.alloc (.cells (ar .u64 25 s) 35)).alloc (.cells #[.int .u64 0, .int .u64 0, .int .u64 0, .int .u64 0, .int .u64 0, .int .u64 0, .int .u64 0, .int .u64 0, .int .u64 0, .int .u64 0, .int .u64 0, .int .u64 0, .int .u64 0, .int .u64 0, .int .u64 0, .int .u64 0, .int .u64 0, .int .u64 0, .int .u64 0, .int .u64 0, .int .u64 0, .int .u64 0, .int .u64 0, .int .u64 0, .int .u64 0] 35)).alloc (.cells #[.int .u64 0, .int .u64 0, .int .u64 0, .int .u64 0, .int .u64 0, .int .u64 0, .int .u64 0, .int .u64 0, .int .u64 0, .int .u64 0, .int .u64 0, .int .u64 0, .int .u64 0, .int .u64 0, .int .u64 0, .int .u64 0, .int .u64 0, .int .u64 0, .int .u64 0, .int .u64 0, .int .u64 0, .int .u64 0, .int .u64 0, .int .u64 0, .int .u64 0] 44)).heap[w.heap.size + 1 + 1]? = some (.cells #[.int .u64 0, .int .u64 0, .int .u64 0, .int .u64 0, .int .u64 0, .int .u64 0, .int .u64 0, .int .u64 0, .int .u64 0, .int .u64 0, .int .u64 0, .int .u64 0, .int .u64 0, .int .u64 0, .int .u64 0, .int .u64 0, .int .u64 0, .int .u64 0, .int .u64 0, .int .u64 0, .int .u64 0, .int .u64 0, .int .u64 0, .int .u64 0, .int .u64 0] 44 (0, 0)) ∧ (((w.alloc (.cells (ar .u64 25 s) 35)).alloc (.cells #[.int .u64 0, .int .u64 0, .int .u64 0, .int .u64 0, .int .u64 0, .int .u64 0, .int .u64 0, .int .u64 0, .int .u64 0, .int .u64 0, .int .u64 0, .int .u64 0, .int .u64 0, .int .u64 0, .int .u64 0, .int .u64 0, .int .u64 0, .int .u64 0, .int .u64 0, .int .u64 0, .int .u64 0, .int .u64 0, .int .u64 0, .int .u64 0, .int .u64 0] 35)).alloc (.cells #[.int .u64 0, .int .u64 0, .int .u64 0, .int .u64 0, .int .u64 0, .int .u64 0, .int .u64 0, .int .u64 0, .int .u64 0, .int .u64 0, .int .u64 0, .int .u64 0, .int .u64 0, .int .u64 0, .int .u64 0, .int .u64 0, .int .u64 0, .int .u64 0, .int .u64 0, .int .u64 0, .int .u64 0, .int .u64 0, .int .u64 0, .int .u64 0, .int .u64 0] 44)).heap[w.heap.size]? = some (.cells (ar .u64 25 s) 35 (0, 0)) ∧ ((w.alloc (.cells (ar .u64 25 s) 35)).alloc (.cells #[.int .u64 0, .int .u64 0, .int .u64 0, .int .u64 0, .int .u64 0, .int .u64 0, .int .u64 0, .int .u64 0, .int .u64 0, .int .u64 0, .int .u64 0, .int .u64 0, .int .u64 0, .int .u64 0, .int .u64 0, .int .u64 0, .int .u64 0, .int .u64 0, .int .u64 0, .int .u64 0, .int .u64 0, .int .u64 0, .int .u64 0, .int .u64 0, .int .u64 0] 35)).heap[w.heap.size]? = some (.cells (ar .u64 25 s) 35 (0, 0)) := by
  have h := heap3 w (.cells (ar .u64 25 s) 35) (.cells #[.int .u64 0, .int .u64 0, .int .u64 0, .int .u64 0, .int .u64 0, .int .u64 0, .int .u64 0, .int .u64 0, .int .u64 0, .int .u64 0, .int .u64 0, .int .u64 0, .int .u64 0, .int .u64 0, .int .u64 0, .int .u64 0, .int .u64 0, .int .u64 0, .int .u64 0, .int .u64 0, .int .u64 0, .int .u64 0, .int .u64 0, .int .u64 0, .int .u64 0] 35) (.cells #[.int .u64 0, .int .u64 0, .int .u64 0, .int .u64 0, .int .u64 0, .int .u64 0, .int .u64 0, .int .u64 0, .int .u64 0, .int .u64 0, .int .u64 0, .int .u64 0, .int .u64 0, .int .u64 0, .int .u64 0, .int .u64 0, .int .u64 0, .int .u64 0, .int .u64 0, .int .u64 0, .int .u64 0, .int .u64 0, .int .u64 0, .int .u64 0, .int .u64 0] 44)
  refine ⟨setRow_heap _ _ _ _ _ _ h.2.2, (setRow_other _ _ _ _ (by omega)).trans h.2.1, below_setRow (by go_grown) (by omega) _, h.2.2, h.1, ?_⟩
  exact (heap_alloc_old _ _ (by simp)).trans (heap_alloc_new _ _)
set_option maxRecDepth 100000 in
set_option maxHeartbeats 4000000 in
-- WHAT Permute COMES TO.
theorem kpe (s : Nat → Int) (w : World) (hT : KTab w) : Calls Tryd.prog 15 #[.agg (ar .u64 25 s)] w fun e w' => e = .returned (.agg (ar .u64 25 (kpm rcT 24 s))) ∧ Below w.heap.size w w' := by
  have HS := kp_start w s
  have HP := Lib.hid (kperm (V := w.heap.size + 1 + 1) (tt := 44) (tl := #[]) (v := s) _ (hT.below (Below.mono HS.2.2.1 (Nat.le_refl _))) (apt_of hT (by omega)) (by rw [kr_nil]; exact HS.1))
  have HR0 := Lib.hid HS.2.2.2.2.1
  have HR0' := Lib.hid HS.2.2.2.2.2
  have HR2 := Lib.hid HS.2.2.2.1
  have HH := Lib.hid (And.intro HS.2.2.1 HS.2.1)
  have HI : ∀ f, Hid ((Tryd.prog.info? 35).map (·.size) = some (ar .u64 25 f).size) := fun f => Lib.hid (by rw [ar_size]; exact infoP)
  have HJ : ∀ f, Hid ((Tryd.prog.info? 44).map (·.size) = some (ar .u64 25 f).size) := fun f => Lib.hid (by rw [ar_size]; exact infoS)
  clear HS hT
  go_enter Tryd.func15, Tryd.ntmps15
  go_wp2_with (first | (refine wpList_load_row rfl 35 _ rfl w.heap.size rfl 35 (ar .u64 25 s) (0, 0) _ (by first | exact HR0'.out | exact HR0.out) Tryd.underlying35 rfl (HI s).out ?_) | (refine wpList_store_row rfl 44 _ _ rfl (w.heap.size + 1 + 1) (ar .u64 25 s) rfl rfl 44 _ (by exact HR2.out) (HJ s).out (by rw [ar_size]; rfl) (ar_one _ _ _) ?_))
  refine HP.out.mono ?_
  rintro e u ⟨rfl, h⟩
  have hr := h.row
  rw [kr_nil] at hr
  have hsz : w.heap.size + 1 + 1 < u.heap.size := (Array.getElem?_eq_some_iff.1 hr).1
  have h1 := (h.bt.block (w.heap.size + 1) (by omega) (by have := HH.out.2; have := (Array.getElem?_eq_some_iff.1 this).1; exact this)).trans HH.out.2
  have hb := h.bt.below HH.out.1 (by omega) HH.out.1.size
  have HQ := Lib.hid (And.intro hr (And.intro h1 hb))
  clear h hr hsz h1 hb HP HR0 HR0' HR2
  obtain ⟨y, hy⟩ : ∃ y, kpm rcT 24 s = y := ⟨_, rfl⟩
  rw [hy] at HQ
  have HY := Lib.hid hy
  clear hy
  go_wp2_with (first | (refine wpList_load_row rfl 44 _ rfl (w.heap.size + 1 + 1) rfl 44 (ar .u64 25 y) (0, 0) _ HQ.out.1 Tryd.underlying44 rfl (HJ y).out ?_) | (refine wpList_store_row rfl 35 _ _ rfl (w.heap.size + 1) (ar .u64 25 y) rfl rfl 35 _ HQ.out.2.1 (HI y).out (by rw [ar_size]; rfl) (ar_one _ _ _) ?_))
  refine bodyPost_ret (v := .agg (ar .u64 25 y)) (results_cell_row (p := 2) rfl _ _ (w.heap.size + 1) 35 _ (0, 0) _ rfl (setRow_heap _ _ _ _ _ _ HQ.out.2.1) Tryd.underlying35 rfl (HI y).out) rfl ⟨by rw [HY.out], below_setRow HQ.out.2.2 (by omega) _⟩
end Go.Proofs.YtcmpnnfnkcmpcaaDoor
namespace Go.Proofs.YtcmpnnfnkcmpcaaDoor
open Go.RowKit

/-- A literal state. -/
def litv (L : List Nat) (i : Nat) : Int := ((L.getD i 0 : Nat) : Int)
theorem ksrc_lt : ∀ j, j < 25 → ksrc j < 25 := by decide +kernel
theorem krd_congr (c : Int) {v u : Nat → Int} (h : ∀ i, i < 25 → v i = u i) : ∀ i, i < 25 → krd c v i = krd c u i := by
  have h1 : ∀ x, x < 5 → kcl v x = kcl u x := fun x hx => by
    unfold kcl
    rw [h x (by omega), h (x + 5) (by omega), h (x + 10) (by omega), h (x + 15) (by omega), h (x + 20) (by omega)]
  have h2 : ∀ i, i < 25 → kth v i = kth u i := fun i hi => by
    unfold kth kds
    rw [if_pos hi, if_pos hi, h i hi, h1 _ (by omega), h1 _ (by omega)]
  have h3 : ∀ i, i < 25 → kmv (kth v) i = kmv (kth u) i := fun i hi => by
    unfold kmv
    rw [h2 0 (by decide), h2 _ (ksrc_lt i hi)]
  have h4 : ∀ i, i < 25 → kch (kmv (kth v)) i = kch (kmv (kth u)) i := fun i hi => by
    unfold kch
    rw [h3 i hi, h3 _ (by omega), h3 _ (by omega)]
  intro i hi
  unfold krd
  rw [h4 i hi, h4 0 (by decide)]
theorem kpm_congr (c : Nat → Int) {v u : Nat → Int} (h : ∀ i, i < 25 → v i = u i) : ∀ n i, i < 25 → kpm c n v i = kpm c n u i
  | 0 => h
  | n + 1 => krd_congr (c n) (kpm_congr c h n)
theorem kpm_lit (LL : List (List Nat)) (h : ∀ k, k < 24 → ∀ i, i < 25 → krd (rcT k) (litv (LL.getD k [])) i = litv (LL.getD (k + 1) []) i) : ∀ n, n ≤ 24 → ∀ i, i < 25 → kpm rcT n (litv (LL.getD 0 [])) i = litv (LL.getD n []) i
  | 0, _ => fun _ _ => rfl
  | n + 1, hn => fun i hi => by
    show krd (rcT n) (kpm rcT n (litv (LL.getD 0 []))) i = _
    rw [krd_congr (rcT n) (kpm_lit LL h n (by omega)) i hi]
    exact h n (by omega) i hi
def lit0 : List (List Nat) := [[1, 0, 0, 0, 0, 0, 0, 0, 0, 0, 0, 0, 0, 0, 0, 0, 9223372036854775808, 0, 0, 0, 0, 0, 0, 0, 0], [4398046511105, 17592186044416, 4398046543872, 0, 17592186077184, 8, 52776560230400, 1152921504606846984, 52776558133248, 1152921504608944128, 2, 544, 262144, 514, 262176, 268436480, 68719493120, 1024, 268451840, 68719476736, 2305844108725321728, 2199023255552, 1099511627780, 2305845208236949504, 4], [3904711243048682726, 1207872589841957126, 3184368193241127169, 12971028319727649889, 10286551402689075458, 1259783720018274, 12214679202016067586, 9224121225299901428, 2992272534782738451, 9800689182623078597, 4611726720294328428, 11685850236297012, 1495365005022904395, 15813382930697286, 6111808659584533265, 124981832595311936, 2684240834651972352, 4912301736543682948, 2488263262048755776, 4778390286886047620, 1163347847091065233, 16868443555924821730, 154580546982776916, 15564660919037354401, 2456770817776948750], [8289102824591434380, 2650440079073489379, 11459863657423534455, 3078203046191370419, 10243614441579508732, 6715684478468316285, 9021721613749738627, 16323907559936263589, 14712371453287876238, 13207516449244145029, 6716728777335539109, 2516792122779427716, 5461754274945430388, 3341045827627689583, 3296329752392194682, 14297203439033465259, 11493424483223189197, 10504499887245279853, 3308135633588744113, 5098721825536174192, 8664368315221462042, 11716894083276002874, 2098923162028634215, 7303567510403455548, 4883930803803657273], [9145702616912342758, 16632607361196628137, 5807045512169203855, 6548049296825423573, 2911560703121806936, 12452414146356170408, 431667818003843456, 4945739612319476974, 12460092556240016733, 7658648394962756264, 13350366495830902207, 1953387479264944757, 17420282858972716739, 1215582556029742168, 7692344429658740155, 17977349082556873670, 1858614526669458582, 10964871947398476332, 15514956647893279288, 179932933774914631, 17508529487041048502, 7503018368851633981, 929261442150911620, 2851383533632874710, 7153482467733786193], [3217695626026700231, 7228520851561084131, 7840336919730310393, 6868346474795808920, 5817928043512098185, 483728965144457366, 2094125954139152251, 13290615271988912878, 6116732081573619054, 12404040371124941288, 5210583702804515577, 6569965374713754428, 9650717987591950737, 1838917144515589093, 6206879949013857101, 13836215650485784034, 2777104299206127432, 9162378715153818446, 2579248593664187030, 4649761399498197408, 4345672674621089333, 17727600499527599874, 15951120162837397783, 1486441073599636038, 7526975559096822753], [248066060412482913, 10809642231442205384, 5504895099598155415, 2584332703152910123, 10449879252273190592, 13355132533173292400, 16887410369553470650, 1390404604944908871, 10467819199160078225, 12586248386544345989, 13287309445471910499, 9168388512907289048, 10117223767413104261, 15763460986669702239, 10756186891316440689, 4278624213941474887, 14275455272196532991, 18250878328984007816, 4482727192120861170, 9721683024389909677, 9163772564863624264, 8489753604216688595, 816201186782976613, 1144184611068540487, 4128866423754115227], [18402963122672406245, 17859514631694764789, 14428715717768966649, 457031613351869429, 10894224858909162407, 8575137199002047859, 17809232792270138362, 4808146580191774126, 14627578404221294643, 7601016815347446848, 8500045888007553416, 2044036892383418708, 15900193137531961059, 8052354359019095129, 17216125304898466993, 16993524951797960044, 5609346022144275528, 15760809127494505806, 8446841439649264471, 18088848446523253189, 8270102827973632420, 9423595931552552983, 16228370102390044934, 12045389637071608679, 7056785534201200939], [12753376061805899333, 2111981560556758208, 13166824882716378987, 12172034681548868104, 16455514320282466043, 3265329870635658802, 5063956176412677616, 15307341599108955523, 17042901249887048594, 15606817482875957131, 12401061165045441397, 14112825205738012444, 7528182654139171963, 679949399121675847, 16110029214220444666, 16075443586991710645, 11809122633193920135, 824682708434772612, 9546558219524207792, 14570838741769169544, 16015354101246307490, 14937681164076894612, 16170554185854218030, 13411014959602602192, 17659497305141992864], [16607373423488820546, 2151422635867277830, 6572340985991069695, 14653210170250470996, 11791760579977573355, 4065323483469060406, 7283395855969466639, 13325119192580981824, 240953767092294249, 4061085087821419309, 15280882476846897925, 2750505582437592369, 2704748849273168765, 6327325585883090832, 2013544036530064293, 11337392647161457476, 9951477293767922198, 15216922623802272473, 4089965193502969186, 10262383148774694472, 11601735218912882699, 3910853304622802100, 1874362684601583732, 14635665072728267742, 11912924353201045756], [12443570198016410408, 15073234423324879037, 16538284292177595253, 770694436111563450, 4661629519587471725, 4134871225352118654, 4776995384142827210, 15478826137546518068, 18066846374717646578, 14270287239788042585, 2910516952809473229, 949633455367371438, 5615595303185522976, 12732927536893994306, 1974801021048620803, 8494920415961791039, 4379175404697166052, 779617988408921914, 11515541233266066687, 10851941993204617098, 17521537655693928411, 15329457299099953713, 8642253880621323691, 13248831312752232176, 9167496934457325936], [2784670699769870044, 12458046501618073558, 14125649387247164462, 2371862000334975945, 17449621713181921370, 18084473122477533316, 10555653529814021168, 1286435700208258660, 7900972333389060382, 13695579594619900831, 14617506584737283108, 16851691067561729428, 8573020770547936416, 15064676017279082892, 17197415585843555401, 15776906507246342037, 9813731578541049216, 12800378173865872612, 15297178561593300238, 11409222445058284577, 15122744860265765604, 5517594499147034503, 7999930204173150732, 15392201373165449930, 12679951944464799674], [16291156846118844451, 9692757143822035377, 17748466164917623592, 18297723408675364712, 5768111022144358297, 5032647943730211172, 240223639921337555, 3573006762761062315, 4418081664467045005, 14050874540553342331, 10482449059741954494, 13992079101437996990, 2435977504749834253, 10982271880190543118, 11974228964236697225, 15115158931448373871, 12735725188152392398, 7627438592320754813, 272652177933322935, 14245570792134504674, 8744534987003128554, 11356875620725102920, 8928226865784257667, 1524680525473545806, 2896276078172484414], [6665051101374537130, 5495771786181444414, 12537915500868265617, 17060231565289718284, 15561324751258473602, 7930404497004154902, 8849067938713931991, 6658565175150454632, 5282570462567558459, 11559245968373515903, 16566202011258081367, 674556369021680881, 3345820050997912695, 4671081468424751526, 7757084567577850828, 8502623553496775840, 3955259317059675661, 8106862701908889232, 6703677908344537012, 6580670985836187516, 9403347355581011122, 7905832091148999944, 5292914193962333749, 11887527448341663821, 16621059256266911255], [10716439878011516281, 15967399425266700355, 12076011584974892592, 16248055671756128434, 10643350871698206347, 10594214463648586357, 7116189751946765041, 7750545512743031734, 18247594507314572309, 7378220163111131807, 14999407657225623861, 7928369854754402115, 17844316675013910964, 15171488774331430663, 7614485196347525793, 11605212344200916950, 15157978784662469348, 11718935584924530645, 5535191362811376685, 14772790920984104005, 10448524766163212306, 4825435813474788858, 17005218769600310333, 13954843883325706830, 4929584870877703474], [1319998251610336165, 5389285008839651730, 9332282829561635961, 9409139626766683675, 6470951802939581099, 17252944717417249465, 17165277815629499916, 3963403808094557162, 14184007887274758158, 9596262242135920298, 10210589069919534081, 14250294093777783787, 8039572666876461379, 2368146889392807232, 1812659259149163614, 16807801796138206746, 11647457970582845122, 6166919066429959443, 1147388708393040668, 1303057136894895726, 1903883279373033606, 2131164935238924974, 4953436646693238779, 2641527683450144340, 2816144971954173157], [13881630218582485081, 16617007106358093478, 8370579830314427868, 1713224054433245973, 13627151018451951556, 10871226027031491916, 4699765345504525133, 4286537013572583285, 17310739681736795836, 99398265043109114, 3545503971586557412, 7556410075305792076, 15679693291762405836, 2729857338541306968, 1921741768395976932, 14263894358714132532, 11009055271111244000, 845971141115169140, 13270182711450419347, 17079085579333711468, 10503578552956300308, 6627023678281057244, 5403374185706104778, 6659075922477107110, 8592110512596117136], [8416411914720361245, 3448560865030073472, 3919536279875559698, 5573607003621883193, 984465805306826053, 15024535068875014392, 3681621266475130062, 9998293171501847344, 14839532389281272683, 533539312507974110, 16824156633091540864, 16389535479321433015, 13782841269213835654, 4122073509668400045, 7683819886385778366, 3592048281988696895, 8681389608761840015, 17598965942532483458, 16560167496673567885, 8777595276064781908, 9594426284182731638, 13108639988284796722, 15254667260581302934, 2433642677842468666, 1064465948127417059], [534296193886098135, 3695287213502380591, 11532049842336470888, 17974523857070849737, 12954850201481240735, 5716772798672216727, 2583007236467463893, 10427970853733301948, 700439106234402195, 7192762512095310632, 4383158246966191391, 18315691205404178545, 18043931791961935518, 16287759594864535142, 15352249056180256782, 18367201066277418680, 6748360514621293390, 9837915013220625665, 12422998273549796530, 12621865645966804366, 4594662070598184093, 8622633690173154066, 12904333489760771204, 385777527094370260, 6037929239432104378], [17242234307811427515, 7298945131924620938, 12512959417444303430, 16244176617175768424, 3826401358280227816, 8589395152097341129, 18321848104009695025, 11680515094655873510, 3680928998899718032, 5209258824295493052, 14420353876404795782, 13596398079702832869, 12202387532391994898, 721433745371800063, 9896885544113945439, 6680377346781173919, 5332700740124661618, 13318027231967735991, 16563930016949065197, 220674366890030230, 6699529091897125322, 2739507427232859638, 15711608159680198358, 15839554650221487652, 11575241304029856712], [16702010266589328720, 11785696339686387325, 16232021429448662837, 4621936354538492110, 16839935569400247044, 3516106972774747115, 11724013555230036502, 7480607343544516906, 14577750021349342573, 2421771942493426498, 8252672638237332873, 8249004131460997133, 778286484670419507, 5467066643722607965, 1760155417958766819, 5539793005320924506, 11397623340431491872, 12864342638065520035, 12083379459737583179, 14892306294104856657, 14623186648705301253, 5128653977437664874, 14734488673449380773, 17399174579470271659, 14787652485258740643], [16488390307541943305, 17559693018003947265, 9108537271992078214, 10423841811661870631, 3040236185740504183, 857882767517711827, 3492714315419207287, 2789125034051568249, 81920884436605105, 13331759205602966770, 16754353820981313164, 6741055624195280880, 5263857701266955350, 4627132801428790548, 7422782385993692804, 3730241882621406845, 4399100234652493596, 15025317568737056282, 4375033872217880358, 3359671850727625416, 1362862387812853932, 8387689881403993048, 8688947589982045175, 11585555971117405732, 16397411802621700634], [7468857592912166551, 7509402213287554103, 5920166622310057021, 1245229838719934601, 11412606850931652734, 4778997266118777220, 13503050704312239975, 9078797036224177493, 9046123609337478232, 2279923682132033021, 968663569872637247, 12528780394224896734, 15109038439802043243, 2514154137644936742, 13074992029672084631, 9981334051720804394, 10929166993946436931, 10786302343937411402, 2172383237928275479, 15222838835840319035, 6535328264755286323, 3021073620629705380, 6914764477367934026, 14161662948158972437, 2646073473019538392], [13219969621820782240, 3226093193424914092, 10846161881167012984, 13470522419822434072, 9395429576182681946, 8530498048516093610, 5651939854162289461, 7915235748700633099, 16590736201521082154, 11443586452577361644, 11578784407731530241, 12555284199035474007, 103191304442796045, 2407050918456829886, 8809156603158525029, 15242461923984447565, 13645658932555888328, 11207932644415108528, 2606492158503956003, 17367323008410274790, 14914538695926853805, 15728690031541589181, 7389391625128953151, 12128506732059288731, 17622300515349969486], [4333579421379646149, 13836122230913597074, 4262519377828905189, 8116759062988257915, 8406387447366859581, 14671339323370021561, 2243375101132795228, 9371364203318886753, 9347994793612953298, 12814238161780307547, 4391692840257016808, 4309499098775122448, 13438072403645551266, 18018124564071650747, 4323130096954625545, 16970298442240338249, 1971761234120675839, 450719451514497906, 18340686150147091359, 11254645818134300982, 16062291397582171322, 1601982631079003425, 7734681229251997073, 13256946727218518206, 11816912122432958423]]
set_option maxRecDepth 100000 in
theorem lit0_step : ∀ k, k < 24 → ∀ i, i < 25 → krd (rcT k) (litv (lit0.getD k [])) i = litv (lit0.getD (k + 1) []) i := by decide +kernel
theorem lit0_all (i : Nat) (hi : i < 25) : kpm rcT 24 (litv (lit0.getD 0 [])) i = litv (lit0.getD 24 []) i := kpm_lit lit0 lit0_step 24 (by decide) i hi
theorem fin_0 (f : Nat → Nat) (i : Nat) (hi : i < 25) : fin f 0 i = litv (lit0.getD 24 []) i := by
  rw [← lit0_all i hi]
  unfold fin
  refine kpm_congr rcT (fun j hj => ?_) 24 i hi
  have h : ∀ j, j < 25 → xby (xby (fun _ => 0) 0 1) 135 128 j = litv (lit0.getD 0 []) j := by decide +kernel
  exact h j hj
theorem ksh_0 (f : Nat → Nat) : ksh f 0 0 = 197 ∧ ksh f 0 1 = 210 ∧ ksh f 0 31 = 112 := by
  show fin f 0 0 / 2 ^ (8 * 0) % 256 = 197 ∧ fin f 0 0 / 2 ^ (8 * 1) % 256 = 210 ∧ fin f 0 3 / 2 ^ (8 * 7) % 256 = 112
  rw [fin_0 f 0 (by decide), fin_0 f 3 (by decide)]
  decide +kernel
theorem arg_nil (w : World) : ArgB w (.slice none 0 0) 0 (fun _ => 0) := ⟨none, 0, rfl, Nat.le_refl _, fun _ => rfl, .inl rfl⟩
set_option maxRecDepth 100000 in
set_option maxHeartbeats 1000000 in
theorem klives (w : World) (hT : KTab w) : Calls Tryd.prog 14 #[] w fun e w' => e = .returned (.bool true) ∧ Below w.heap.size w w' := by
  have SU := Lib.hid (ksum (n := 0) (f := fun _ => 0) (by omega) (fun _ => by omega) hT (arg_nil w))
  have HN := Lib.hid (ksh_0 (fun _ => 0))
  obtain ⟨r, hr⟩ : ∃ r, ksh (fun _ => 0) 0 = r := ⟨_, rfl⟩
  rw [hr] at SU HN
  clear hr hT
  go_enter Tryd.func14, Tryd.ntmps14
  go_wp2_with fail
  refine SU.out.mono ?_
  rintro e w2 ⟨rfl, hb⟩
  have HB := Lib.hid hb
  have hrow : ((w2.alloc (.cells #[.int .u8 0, .int .u8 0, .int .u8 0, .int .u8 0, .int .u8 0, .int .u8 0, .int .u8 0, .int .u8 0, .int .u8 0, .int .u8 0, .int .u8 0, .int .u8 0, .int .u8 0, .int .u8 0, .int .u8 0, .int .u8 0, .int .u8 0, .int .u8 0, .int .u8 0, .int .u8 0, .int .u8 0, .int .u8 0, .int .u8 0, .int .u8 0, .int .u8 0, .int .u8 0, .int .u8 0, .int .u8 0, .int .u8 0, .int .u8 0, .int .u8 0, .int .u8 0] 25)).setRow w2.heap.size (ar .u8 32 r)).heap[w2.heap.size]? = some (.cells (ar .u8 32 r) 25 (0, 0)) := setRow_heap _ _ _ _ _ _ (heap_alloc_new _ _)
  have c0 := (cell_of_row _ _ 0 _ _ _ hrow).trans (ar_at _ _ _ _ (by omega))
  have c1 := (cell_of_row _ _ 1 _ _ _ hrow).trans (ar_at _ _ _ _ (by omega))
  have c2 := (cell_of_row _ _ 31 _ _ _ hrow).trans (ar_at _ _ _ _ (by omega))
  rw [HN.out.1] at c0
  rw [HN.out.2.1] at c1
  rw [HN.out.2.2] at c2
  clear hrow hb
  go_wp2_with (refine wpList_store_row rfl 25 _ _ rfl w2.heap.size (ar .u8 32 r) rfl rfl 25 _ (heap_alloc_new _ _) (by rw [ar_size]; exact info32) (by rw [ar_size]; rfl) (ar_one _ _ _) ?_)
  go_ret
  exact ⟨rfl, below_setRow (HB.out.alloc HB.out.size _) HB.out.size _⟩
end Go.Proofs.YtcmpnnfnkcmpcaaDoor
namespace Go.Proofs.YtcmpnnfnkcmpcaaDoor
open Go.RowKit

/-- Whether the first n are the same. -/
def eqF (n : Nat) (f g : Nat → Int) : Bool := (List.range n).all fun i => f i == g i
theorem eqF_iff {n : Nat} {f g : Nat → Int} : eqF n f g = true ↔ ∀ i, i < n → f i = g i := by simp [eqF]
theorem eqF_same (n : Nat) (f : Nat → Int) : eqF n f f = true := eqF_iff.2 fun _ _ => rfl
section
variable {P : Program}
theorem forIn_all (w : World) (q : Nat → Bool) (body : Nat → Option Bool × Unit → Sem (ForInStep (Option Bool × Unit))) : ∀ l : List Nat,
    (∀ i, i ∈ l → (body i (none, ())).run P w = .ok (if q i then .yield (none, ()) else .done (some false, ())) w) →
    (forIn l (none, ()) body).run P w = .ok (if l.all q then (none, ()) else (some false, ())) w
  | [], _ => by simp [Sem.run_pure]
  | a :: l, h => by
    have h1 := h a (by simp)
    have h2 := forIn_all w q body l (fun i hi => h i (by simp [hi]))
    rw [List.forIn_cons, Sem.run_bind, h1, Result.andThen_ok]
    cases hq : q a with
    | true =>
      simp only [hq, if_true, List.all_cons, Bool.true_and]
      exact h2
    | false =>
      simp [hq, Sem.run_pure]
theorem eqi_ar (n : Nat) (T E : TypeId) (k : IntKind) (f g : Nat → Int) (d : Nat) (w : World) (hT : P.underlying T = some (.array n E)) (hE : P.underlying E = some (.int k)) (hs : (sizeOf E).run P w = .ok 1 w) (ha : (isAgg E).run P w = .ok false w) :
    (Op.equalIn (d + 2) T (.agg (ar k n f)) (.agg (ar k n g))).run P w = .ok (eqF n f g) w := by
  rw [Op.equalIn]
  simp only [Sem.run_bind, run_underlying hT, Result.andThen_ok, hs]
  simp only [Std.Legacy.Range.forIn_eq_forIn_range', Std.Legacy.Range.size, Nat.sub_zero, Nat.add_sub_cancel, Nat.div_one]
  rw [forIn_all w (fun i => f i == g i) _ (List.range' 0 n) (fun i hi => ?_)]
  · have hd : (List.range' 0 n).all (fun i => f i == g i) = eqF n f g := by
      rw [Bool.eq_iff_iff, eqF_iff]
      simp [List.mem_range']
    rw [hd]
    cases eqF n f g <;> simp [Result.andThen, Sem.run_pure]
  · have hin : i < n := by
      rw [List.mem_range'] at hi
      omega
    have p1 := ar_at k n f i hin
    have p2 := ar_at k n g i hin
    have e : (Op.equalIn (d + 1) E (.int k (f i)) (.int k (g i))).run P w = .ok (f i == g i) w := by
      rw [Op.equalIn]
      simp [Sem.run_bind, run_underlying hE, Sem.run_pure]
    simp only [Sem.run_bind, part, ha, Nat.mul_one, p1, p2, Result.andThen_ok, Bool.false_eq_true, if_false]
    simp [Sem.run_pure, ha, e]
    by_cases hq : f i = g i <;> simp [hq]
theorem eqb_ar (n : Nat) (T E : TypeId) (k : IntKind) (f g : Nat → Int) (w : World) (hT : P.underlying T = some (.array n E)) (hE : P.underlying E = some (.int k)) (hs : (sizeOf E).run P w = .ok 1 w) (ha : (isAgg E).run P w = .ok false w) :
    (binOp BinOp.eql T (.agg (ar k n f)) (.agg (ar k n g))).run P w = .ok (.bool (eqF n f g)) w := by
  have h := eqi_ar n T E k f g 9998 w hT hE hs ha
  simp [binOp, Op.equal, Op.maxDepth, h]
theorem neb_ar (n : Nat) (T E : TypeId) (k : IntKind) (f g : Nat → Int) (w : World) (hT : P.underlying T = some (.array n E)) (hE : P.underlying E = some (.int k)) (hs : (sizeOf E).run P w = .ok 1 w) (ha : (isAgg E).run P w = .ok false w) :
    (binOp BinOp.neq T (.agg (ar k n f)) (.agg (ar k n g))).run P w = .ok (.bool (!eqF n f g)) w := by
  have h := eqi_ar n T E k f g 9998 w hT hE hs ha
  simp [binOp, Op.equal, Op.maxDepth, h]
theorem load_ar {g n : Nat} {k : IntKind} {T : TypeId} {h : Nat → Int} {d : TypeDesc} {w : World} (hg : w.heap[g]? = some (.cells (ar k n h) T (0, 0))) (hu : P.underlying T = some d) (hd : (match d with | .struct _ | .array _ _ => true | _ => false) = true) (hi : (P.info? T).map (·.size) = some n) : (Instr.loadAt T (.pointer (some ⟨g, 0, none⟩))).run P w = .ok (.agg (ar k n h)) w := by
  simp only [Instr.loadAt, Instr.sureAddr, Sem.run_bind, Sem.run_pure, Result.andThen_ok, run_loadVar_row w g T T (ar k n h) (0, 0) _ hg hu hd (by rw [ar_size]; exact hi)]
end
end Go.Proofs.YtcmpnnfnkcmpcaaDoor
namespace Go.Proofs.YtcmpnnfnkcmpcaaDoor
open Go.RowKit

/-- One listed variable's reading. -/
def VReads (P : Program) (w : World) (n : String) (d : DataW Unit) : Prop :=
  ∃ g t cs fuel p, P.globalNamed n = some g ∧ (P.globals[g]?).map (·.type) = some t ∧ w.var? P n = some cs ∧ DataW.trod (fun _ => ()) P w 0 (fun _ => true) false fuel t cs.toList = some (d, p)
theorem laidVars_reads {P : Program} {w : World} : ∀ {l : List (String × DataW Unit)} {ps : List MemPlace}, DataW.LaidVars P w l ps → ∀ n d, (n, d) ∈ l → VReads P w n d
  | [], _, _, _, _, hm => by cases hm
  | (n', d') :: r, ps, h, n, d, hm => by
    obtain ⟨g, t, cs, fuel, p, q, h1, h2, h3, h4, h5, _⟩ := h
    rcases List.mem_cons.1 hm with e | e
    · cases e
      exact ⟨g, t, cs, fuel, p, h1, h2, h3, h4⟩
    · exact laidVars_reads h5 n d e
theorem laid_reads {P : Program} {w : World} {l : List (String × DataW Unit)} (h : laidMet P l w) {n : String} {d : DataW Unit} (hm : (n, d) ∈ l) : VReads P w n d :=
  let ⟨_, hv, _⟩ := h
  laidVars_reads hv n d hm
theorem tab1_cell {P : Program} {w : World} {nm : String} {zs : List Int} {g : Nat} {t e : TypeId} {n : Nat} {k : IntKind} (h : VReads P w nm (Lib.tabData k zs)) (hg : P.globalNamed nm = some g) (hty : (P.globals[g]?).map (·.type) = some t)
    (ht : P.underlying t = some (.array n e)) (he : P.underlying e = some (.int k)) (hce : P.cellsOf e = 1) (hct : P.cellsOf t = n) (hz : zs.length = n) (j : Nat) (hj : j < n) : w.cell? ⟨g, j, none⟩ = some (.int k (zs.getD j 0)) := by
  obtain ⟨g', t', cs, fuel, p, hg', ht', hvar, hd⟩ := h
  obtain rfl := Option.some.inj (hg.symm.trans hg')
  obtain rfl := Option.some.inj (hty.symm.trans ht')
  have h1 := Lib.cells_of_tab ht he hce hct hd
  rw [World.var?_cell hg hvar j, ← Array.getElem?_toList, h1, List.getElem?_map, List.getD_eq_getElem?_getD, List.getElem?_eq_getElem (by omega)]
  rfl
theorem tab_path {w : World} (h : VReads Tryd.prog w "bailiwick/keccak.path" Rows.laid_bailiwick_keccak_path) (j : Nat) (hj : j < 24) : w.cell? ⟨2, j, none⟩ = some (.int .i64 (pthT j : Nat)) := by
  rw [tab1_cell (zs := [10, 7, 11, 17, 18, 3, 5, 16, 8, 21, 24, 4, 15, 23, 19, 13, 12, 2, 20, 14, 22, 9, 6, 1]) h (by kernel_rfl) (by kernel_rfl) Tryd.underlying83 Tryd.underlying3 (by kernel_rfl) (by kernel_rfl) rfl j hj]
  have h2 : ∀ j : Fin 24, ([10, 7, 11, 17, 18, 3, 5, 16, 8, 21, 24, 4, 15, 23, 19, 13, 12, 2, 20, 14, 22, 9, 6, 1] : List Int).getD j 0 = ((pthT j : Nat) : Int) := by decide +kernel
  exact congrArg (fun z => some (Value.int .i64 z)) (h2 ⟨j, hj⟩)
theorem tab_rcs {w : World} (h : VReads Tryd.prog w "bailiwick/keccak.roundConstants" Rows.laid_bailiwick_keccak_roundConstants) (j : Nat) (hj : j < 24) : w.cell? ⟨0, j, none⟩ = some (.int .u64 (rcT j)) := by
  rw [tab1_cell (zs := [1, 32898, 9223372036854808714, 9223372039002292224, 32907, 2147483649, 9223372039002292353, 9223372036854808585, 138, 136, 2147516425, 2147483658, 2147516555, 9223372036854775947, 9223372036854808713, 9223372036854808579, 9223372036854808578, 9223372036854775936, 32778, 9223372039002259466, 9223372039002292353, 9223372036854808704, 2147483649, 9223372039002292232]) h (by kernel_rfl) (by kernel_rfl) Tryd.underlying71 Tryd.underlying34 (by kernel_rfl) (by kernel_rfl) rfl j hj]
  have h2 : ∀ j : Fin 24, ([1, 32898, 9223372036854808714, 9223372039002292224, 32907, 2147483649, 9223372039002292353, 9223372036854808585, 138, 136, 2147516425, 2147483658, 2147516555, 9223372036854775947, 9223372036854808713, 9223372036854808579, 9223372036854808578, 9223372036854775936, 32778, 9223372039002259466, 9223372039002292353, 9223372036854808704, 2147483649, 9223372039002292232] : List Int).getD j 0 = rcT j := by decide +kernel
  exact congrArg (fun z => some (Value.int .u64 z)) (h2 ⟨j, hj⟩)
/-- The tables lie as the row lists them. -/
theorem tabs_of {w : World} {l : List (String × DataW Unit)} (h : laidMet Tryd.prog l w) (m1 : ("bailiwick/keccak.path", Rows.laid_bailiwick_keccak_path) ∈ l) (m2 : ("bailiwick/keccak.roundConstants", Rows.laid_bailiwick_keccak_roundConstants) ∈ l) : KTab w :=
  ⟨fun t ht => tab_path (laid_reads h m1) t ht, fun t ht => tab_rcs (laid_reads h m2) t ht⟩
end Go.Proofs.YtcmpnnfnkcmpcaaDoor
namespace Go.Proofs.YtcmpnnfnkcmpcaaDoor
open Go.ChangeShapes Go.WideShapes Go.ChangeAt Go.RowKit

theorem ownF : ownKnob Tryd.prog.godebug = none := by kernel_rfl
theorem laidOutF : laidOutB Tryd.prog = true := by kernel_rfl
theorem cellsU8 : Tryd.prog.cellsOf 5 = 1 := by kernel_rfl
theorem ints_of_arr {H : Type} {enc : TypeId × Value → H} {P : Program} {w : World} {base : Nat} {sp : Nat → Bool} {held : Bool} {fuel : Nat} {t e : TypeId} {n : Nat} {k : IntKind} {cs : List Value} {d : DataW H} {p : List MemPlace}
    (ht : P.underlying t = some (.array n e)) (he : P.underlying e = some (.int k)) (hce : P.cellsOf e = 1)
    (h : DataW.trod enc P w base sp held fuel t cs = some (d, p)) : ∀ i, i < n → ∃ z, cs[i]? = some (.int k z) ∧ (Lit.int k z).wf = true := by
  cases fuel with
  | zero => simp [DataW.trod] at h
  | succ fuel =>
    simp only [DataW.trod, ht, hce, Nat.mul_one] at h
    split at h
    · rename_i hl
      obtain ⟨xs, hm, hx⟩ := Option.map_eq_some_iff.1 h
      intro i hi
      obtain ⟨b, hb, hf⟩ := Lib.mapM_at hm i i (by simp [hi])
      obtain ⟨z, hc, -, hw⟩ := DataW.trod_int he hf
      refine ⟨z, ?_, hw⟩
      have := congrArg (·[0]?) hc
      simpa [List.getElem?_take, List.getElem?_drop] using this
    · cases h
set_option maxRecDepth 100000 in
/-- AN ARRAY OF INTEGERS AMONG THE ARGUMENTS. -/
theorem open_arr {H : Type} {enc : TypeId × Value → H} {W : World} {base b2 : Nat} {sp : Nat → Bool} {hd : Bool} {v : Value} {d : DataW H} {ps : List MemPlace} {t e : TypeId} {n : Nat} {k : IntKind}
    (ht : Tryd.prog.underlying t = some (.array n e)) (he : Tryd.prog.underlying e = some (.int k)) (hce : Tryd.prog.cellsOf e = 1) (hct : Tryd.prog.cellsOf t = n)
    (hv : Value.okWide Tryd.prog W .any base t v) (h : DataW.Trod enc Tryd.prog W b2 sp hd t v d ps) : ∃ f : Nat → Int, v = .agg (ar k n f) ∧ ∀ i, i < n → (Lit.int k (f i)).wf = true := by
  obtain ⟨cs, rfl, hsz, _⟩ : ∃ cs, v = .agg cs ∧ cs.size = Tryd.prog.cellsOf t ∧ Row.okWide Tryd.prog W .any base t cs := by
    simpa [Value.okWide, ht] using hv
  rw [hct] at hsz
  obtain ⟨fuel, hf⟩ := h
  have h1 := ints_of_arr ht he hce hf
  refine ⟨fun i => if hi : i < n then Classical.choose (h1 i hi) else 0, ?_, fun i hi => ?_⟩
  · congr 1
    apply Array.ext
    · rw [hsz, ar_size]
    · intro i a b
      have hi : i < n := by omega
      have h2 := (Classical.choose_spec (h1 i hi)).1
      have h3 : cs[i]? = some (.int k (Classical.choose (h1 i hi))) := by simpa [Value.cells] using h2
      have h4 := ar_at k n (fun i => if hi : i < n then Classical.choose (h1 i hi) else 0) i hi
      rw [Array.getElem?_eq_getElem b] at h4
      rw [Array.getElem?_eq_getElem a] at h3
      have h5 := Option.some.inj h3
      have h6 := Option.some.inj h4
      rw [h5, h6]
      simp [hi]
  · simp only [hi, dif_pos]
    exact (Classical.choose_spec (h1 i hi)).2
theorem lits_len {H : Type} (k : IntKind) (zs : List Int) : (lits (H := H) k zs).length = zs.length := by simp [lits]
theorem range_u8' {zs : List Int} (hw : ∀ n ∈ zs, (Lit.int .u8 n).wf = true) (j : Nat) : 0 ≤ zs.getD j 0 ∧ zs.getD j 0 ≤ 255 := by
  rcases Nat.lt_or_ge j zs.length with h | h
  · have h1 := hw (zs.getD j 0) (by rw [List.getD_eq_getElem?_getD, List.getElem?_eq_getElem h]; exact List.getElem_mem h)
    simpa [Lit.wf, IntKind.min, IntKind.max, IntKind.signed, IntKind.bits] using h1
  · rw [List.getD_eq_getElem?_getD, List.getElem?_eq_none h]
    decide
set_option maxRecDepth 100000 in
/-- BYTES AMONG THE ARGUMENTS. -/
theorem open_bytesS {H : Type} {enc : TypeId × Value → H} {W : World} {base b2 : Nat} {hd : Bool} {v : Value} {d : DataW H} {ps : List MemPlace}
    (hv : Value.okWide Tryd.prog W .any base 22 v) (h : DataW.Trod enc Tryd.prog W b2 (fun _ => true) hd 22 v d ps) :
    ∃ (n : Nat) (f : Nat → Nat), ArgB W v n f ∧ (∀ j, f j < 256) ∧ (n = 0 ∨ ∃ l s, d = .slice l s ∧ l.length = n) := by
  obtain ⟨a0, len, cap, rfl⟩ := okWide_slice Tryd.underlying22 hv
  obtain ⟨fuel, hf⟩ := h
  rcases open_ints Tryd.underlying22 Tryd.underlying5 cellsU8 hf with ⟨hcs, -⟩ | ⟨a, len', cap', zs, hcs, -, hl, hm, hz, hx, hcell, hwz⟩
  · simp [Value.cells] at hcs
    obtain ⟨rfl, rfl, rfl⟩ := hcs
    exact ⟨0, fun _ => 0, ⟨none, 0, rfl, Nat.le_refl _, fun _ => rfl, .inl rfl⟩, fun j => (by show (0 : Nat) < 256; omega), .inl rfl⟩
  · simp [Value.cells] at hcs
    obtain ⟨rfl, rfl, rfl⟩ := hcs
    simp only [if_true] at hz
    have hr := fun j => range_u8' hwz j
    have hd' : d = .slice (lits .u8 (zs.take len)) (lits .u8 (zs.drop len)) := congrArg Prod.fst hx
    refine ⟨len, fun j => (zs.getD j 0).toNat, ⟨some a, cap, rfl, hl, (fun h => by cases h), ?_⟩, fun j => ?_, .inr ⟨_, _, hd', by rw [lits_len, List.length_take]; omega⟩⟩
    · rcases Nat.eq_zero_or_pos len with h0 | h0
      · exact .inl h0
      · obtain ⟨ab, ao, spot⟩ := a
        have hspot : spot = none := by simpa [Addr.add] using World.cell?_spot (hcell 0 (by omega))
        subst hspot
        refine .inr ⟨ab, ao, rfl, by simpa [Addr.add] using World.block_lt_of_cell? W _ (hcell 0 (by omega)), fun j hj => ?_⟩
        have hc := hcell j (by omega)
        rw [Addr.add_lit] at hc
        rw [hc]
        have h1 := hr j
        show _ = some (Value.int .u8 (((zs.getD j 0).toNat : Nat) : Int))
        rw [Int.toNat_of_nonneg h1.1]
    · have h1 := hr j
      show (zs.getD j 0).toNat < 256
      omega
theorem bulk_one {H : Type} (d : DataW H) : 1 ≤ Rows.uptoBulk d := by
  cases d with
  | lit l => cases l <;> simp [Rows.uptoBulk]
  | nil => simp [Rows.uptoBulk]
  | ptr d => simp [Rows.uptoBulk]
  | slice elems spare => simp [Rows.uptoBulk]
  | agg parts => simp [Rows.uptoBulk]
  | iface t d => simp [Rows.uptoBulk]
  | map entries => simp [Rows.uptoBulk]
  | held h => simp [Rows.uptoBulk]
theorem bulk_len {H : Type} (l : List (DataW H)) : l.length ≤ Rows.uptoBulkAll l := by
  induction l with
  | nil => simp [Rows.uptoBulkAll]
  | cons x r ih => have := bulk_one x; simp only [Rows.uptoBulkAll, List.length_cons]; omega
theorem bulk_in {H : Type} {d : DataW H} {l : List (DataW H)} (h : d ∈ l) : Rows.uptoBulk d ≤ Rows.uptoBulkAll l := by
  induction l with
  | nil => cases h
  | cons x r ih =>
    simp only [Rows.uptoBulkAll]
    rcases List.mem_cons.1 h with e | e
    · subst e; omega
    · have := ih e; omega
/-- WHAT THE BOUND SAYS of a list. -/
theorem bulk_list {H : Type} {ds : List (DataW H)} (hk : Rows.uptoSmall H ds = true) {d : DataW H} (hd : d ∈ ds) {n : Nat} (hn : n = 0 ∨ ∃ l s, d = .slice l s ∧ l.length = n) : n ≤ 1048576 := by
  rcases hn with rfl | ⟨l, s, rfl, rfl⟩
  · omega
  · have h1 : Rows.uptoBulkAll ds ≤ 1048576 := of_decide_eq_true hk
    have h2 := bulk_in hd
    have h3 := bulk_len l
    simp only [Rows.uptoBulk] at h2
    omega
/-- The cells of a table as a row lists it. -/
def valsIn : DataW Unit → List Value
  | .agg l => l.map fun x => match x with
    | .lit (.int k z) => Value.int k z
    | _ => undef
  | _ => []
def valsOf : DataW Unit → Array Value
  | .agg l => (l.flatMap fun x => match x with
    | .lit (.int k z) => [Value.int k z]
    | y => valsIn y).toArray
  | _ => #[]
def layAt (w : World) (b : Nat) (vs : Array Value) : World := { w with heap := w.heap.modify b fun
      | .cells _ t frozen => .cells vs t frozen
      | o => o }
/-- A WORLD FOR THE WITNESS: the settled one, the tables holding what their initialisers lay. -/
noncomputable def laidWorld (os : Os) : World :=
  layAt (layAt (World.holding Tryd.prog os ⟨#[], #[], []⟩) 2 (valsOf Rows.laid_bailiwick_keccak_path)) 0 (valsOf Rows.laid_bailiwick_keccak_roundConstants)
theorem cellsU64 : Tryd.prog.cellsOf 34 = 1 := by kernel_rfl
theorem wf_u64 {z : Int} (h : (Lit.int .u64 z).wf = true) : 0 ≤ z ∧ z < 18446744073709551616 := by
  simp [Lit.wf, IntKind.min, IntKind.max, IntKind.signed, IntKind.bits] at h
  omega
end Go.Proofs.YtcmpnnfnkcmpcaaDoor

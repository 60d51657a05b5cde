/- BLAKE2b: what inOrder comes to. -/
import Derived.Test.YtoeomlmnejhgpaaDoorBRound
namespace Go.Proofs.YtoeomlmnejhgpaaDoor
open Go.RowKit

/-- m in the order of a row of places. -/
def ord (m : Nat → Int) (s : Nat → Nat) (j : Nat) : Int := m (s j)
def ordD (m : Nat → Int) (s : Nat → Nat) (k j : Nat) : Int := if j < k then ord m s j else 0
theorem ordD_next {m : Nat → Int} {s : Nat → Nat} {k : Nat} (i : Nat) : updI (ordD m s k) k (m (s k)) i = ordD m s (k + 1) i := by
  unfold updI ordD ord
  by_cases e : i = k
  · subst e
    rw [if_pos rfl, if_pos (by omega)]
  · rw [if_neg e]
    by_cases e2 : i < k
    · rw [if_pos e2, if_pos (by omega)]
    · rw [if_neg e2, if_neg (by omega)]
theorem ordD_full (m : Nat → Int) (s : Nat → Nat) : ar .u64 16 (ordD m s 16) = ar .u64 16 (ord m s) := ar_congr fun j hj => by unfold ordD; rw [if_pos hj]
theorem ordD_none (m : Nat → Int) (s : Nat → Nat) : ar .u64 16 (ordD m s 0) = #[.int .u64 0, .int .u64 0, .int .u64 0, .int .u64 0, .int .u64 0, .int .u64 0, .int .u64 0, .int .u64 0, .int .u64 0, .int .u64 0, .int .u64 0, .int .u64 0, .int .u64 0, .int .u64 0, .int .u64 0, .int .u64 0] := by kernel_rfl
theorem info16u : (Tryd.prog.info? 55).map (·.size) = some 16 := by kernel_rfl
theorem info16i : (Tryd.prog.info? 103).map (·.size) = some 16 := by kernel_rfl
theorem heap4 (w : World) (A B C D : Obj) : ((((w.alloc A).alloc B).alloc C).alloc D).heap[w.heap.size]? = some A ∧ ((((w.alloc A).alloc B).alloc C).alloc D).heap[w.heap.size + 1]? = some B ∧ ((((w.alloc A).alloc B).alloc C).alloc D).heap[w.heap.size + 1 + 1]? = some C ∧ ((((w.alloc A).alloc B).alloc C).alloc D).heap[w.heap.size + 1 + 1 + 1]? = some D := by
  have h := heap3 w A B C
  have hs : (((w.alloc A).alloc B).alloc C).heap.size = w.heap.size + 1 + 1 + 1 := by simp
  refine ⟨(heap_alloc_old _ _ (by omega)).trans h.1, (heap_alloc_old _ _ (by omega)).trans h.2.1, (heap_alloc_old _ _ (by omega)).trans h.2.2, ?_⟩
  rw [← hs]
  exact heap_alloc_new _ _
/-- The worlds of inOrder. -/
structure CO (w : World) (m : Nat → Int) (s : Nat → Nat) (k : Nat) (wx : World) : Prop where
  old : Below w.heap.size w wx
  r0 : wx.heap[w.heap.size]? = some (.cells (ar .u64 16 m) 55 (0, 0))
  r2 : wx.heap[w.heap.size + 1 + 1]? = some (.cells (ar .u64 16 (ordD m s 0)) 55 (0, 0))
  r3 : wx.heap[w.heap.size + 1 + 1 + 1]? = some (.cells (ar .u64 16 (ordD m s k)) 55 (0, 0))
set_option maxRecDepth 100000 in
set_option maxHeartbeats 2000000 in
-- WHAT inOrder COMES TO.
theorem order_any (m : Nat → Int) (s : Nat → Nat) (hs : ∀ j, j < 16 → s j < 16) (w : World) : Calls Tryd.prog 66 #[.agg (ar .u64 16 m), .agg (ar .i64 16 fun j => (s j : Nat))] w fun e w' => e = .returned (.agg (ar .u64 16 (ord m s))) ∧ Below w.heap.size w w' := by
  have HS := Lib.hid hs; clear hs
  have HI : Hid ((Tryd.prog.info? 55).map (·.size) = some (ar .u64 16 (ord m s)).size) := Lib.hid (by rw [ar_size]; exact info16u)
  have HI2 : Hid ((Tryd.prog.info? 103).map (·.size) = some (ar .i64 16 fun j => (s j : Nat)).size) := Lib.hid (by rw [ar_size]; exact info16i)
  have H4 := Lib.hid (heap4 w (.cells (ar .u64 16 m) 55) (.cells (ar .i64 16 fun j => (s j : Nat)) 103) (.cells #[.int .u64 0, .int .u64 0, .int .u64 0, .int .u64 0, .int .u64 0, .int .u64 0, .int .u64 0, .int .u64 0, .int .u64 0, .int .u64 0, .int .u64 0, .int .u64 0, .int .u64 0, .int .u64 0, .int .u64 0, .int .u64 0] 55) (.cells #[.int .u64 0, .int .u64 0, .int .u64 0, .int .u64 0, .int .u64 0, .int .u64 0, .int .u64 0, .int .u64 0, .int .u64 0, .int .u64 0, .int .u64 0, .int .u64 0, .int .u64 0, .int .u64 0, .int .u64 0, .int .u64 0] 55))
  go_enter Tryd.func66, Tryd.ntmps66
  go_wp2_with (refine wpList_load_row rfl 103 _ rfl (w.heap.size + 1) rfl 103 _ (0, 0) _ H4.out.2.1 Tryd.underlying103 rfl HI2.out ?_)
  go_loopw [9] (fun i wr => ∃ k : Nat, k ≤ 16 ∧ i = .int .i64 k ∧ Hid (CO w m s k wr)) (fun i _ => 16 - (intOf i).toNat)
  case atStart =>
    refine ⟨0, by omega, rfl, Lib.hid ⟨by go_grown, H4.out.1, ?_, ?_⟩⟩
    · rw [ordD_none]; exact H4.out.2.2.1
    · rw [ordD_none]; exact H4.out.2.2.2
  case round =>
    obtain ⟨k, hk, rfl, H⟩ := hrel
    clear H4
    have hk0 : (0 : Int) ≤ k := by omega
    by_cases hlt : k < 16
    · have hlt' : (k : Int) < 16 := by omega
      have hix : ∀ w, (Instr.index 103 (.agg (ar .i64 16 fun j => (s j : Nat))) (.int .i64 k)).run Tryd.prog w = .ok (.int .i64 (s k : Nat)) w := fun w => index_ar (f := fun j => ((s j : Nat) : Int)) w Tryd.underlying103 (by kernel_rfl) (by kernel_rfl) hlt
      have hsk := HS.out k hlt
      obtain ⟨p, hp⟩ : ∃ p, s k = p := ⟨_, rfl⟩
      have hp0 : (0 : Int) ≤ p := by omega
      have hp1 : (p : Int) < 16 := by omega
      rw [hp] at hix
      have ci := cell_row16 H.out.r0 p (by omega)
      have co := cell_row16 H.out.r3 k hlt
      have fo := frozen_of_row wr _ k _ _ H.out.r3
      have HP := Lib.hid hp
      clear hsk hp
      go_wp2_with fail
      go_roundw
      case rel =>
        refine ⟨k + 1, by omega, by go_num, Lib.hid ⟨H.out.old.setCell (by show w.heap.size ≤ w.heap.size + 1 + 1 + 1; omega) _, (heap_setCell_other _ _ _ _ (by show w.heap.size ≠ w.heap.size + 1 + 1 + 1; omega)).trans H.out.r0, (heap_setCell_other _ _ _ _ (by show w.heap.size + 1 + 1 ≠ w.heap.size + 1 + 1 + 1; omega)).trans H.out.r2, ?_⟩⟩
        refine (heap_setCell_same _ _ _ _ _ _ H.out.r3).trans ?_
        rw [ar_set _ _ _ _ _ hlt, ← HP.out]
        congr 2
        exact ar_congr (fun j _ => ordD_next j)
      case measure => simp [intOf]; omega
    · obtain rfl : k = 16 := by omega
      have h3 := H.out.r3
      rw [ordD_full] at h3
      have H3 := Lib.hid h3
      clear h3
      go_wp2_with (first | (refine wpList_load_row rfl 55 _ rfl (w.heap.size + 1 + 1 + 1) rfl 55 _ (0, 0) _ H3.out Tryd.underlying55 rfl HI.out ?_) | (refine wpList_store_row rfl 55 _ _ rfl (w.heap.size + 1 + 1) (ar .u64 16 (ord m s)) rfl rfl 55 (ar .u64 16 (ordD m s 0)) H.out.r2 HI.out (by rw [ar_size, ar_size]) (ar_one _ _ _) ?_))
      refine bodyPost_ret (v := .agg (ar .u64 16 (ord m s))) (results_cell_row (p := 4) rfl _ _ (w.heap.size + 1 + 1) 55 _ (0, 0) _ rfl (setRow_heap _ _ _ _ _ _ H.out.r2) Tryd.underlying55 rfl HI.out) rfl ⟨rfl, below_setRow H.out.old (by omega) _⟩
end Go.Proofs.YtoeomlmnejhgpaaDoor

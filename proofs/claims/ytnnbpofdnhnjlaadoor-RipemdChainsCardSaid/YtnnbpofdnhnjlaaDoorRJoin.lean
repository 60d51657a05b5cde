/- RIPEMD-160: the bytes of five numbers; what joined comes to. -/
import Derived.Test.YtnnbpofdnhnjlaaDoorRBlock
namespace Go.Proofs.YtnnbpofdnhnjlaaDoor
open Go.RowKit

/-- The bytes of five numbers. -/
def jn (h : Nat → Int) (i : Nat) : Int := h (i / 4) / 2 ^ (8 * (i % 4)) % 256
def jnd (h : Nat → Int) (k i : Nat) : Int := if i < k then jn h i else 0
theorem jnd_next {h : Nat → Int} {k : Nat} (i : Nat) : updI (jnd h k) k (jn h k) i = jnd h (k + 1) i := by
  unfold updI jnd
  by_cases e : i = k
  · subst e
    rw [if_pos rfl, if_pos (by omega)]
  · rw [if_neg e]
    by_cases e2 : i < k
    · rw [if_pos e2, if_pos (by omega)]
    · rw [if_neg e2, if_neg (by omega)]
theorem jnd_full (h : Nat → Int) : ar .u8 20 (jnd h 20) = ar .u8 20 (jn h) := ar_congr fun j hj => by unfold jnd; rw [if_pos hj]
theorem jnd_none (h : Nat → Int) : ar .u8 20 (jnd h 0) = #[.int .u8 0, .int .u8 0, .int .u8 0, .int .u8 0, .int .u8 0, .int .u8 0, .int .u8 0, .int .u8 0, .int .u8 0, .int .u8 0, .int .u8 0, .int .u8 0, .int .u8 0, .int .u8 0, .int .u8 0, .int .u8 0, .int .u8 0, .int .u8 0, .int .u8 0, .int .u8 0] := by kernel_rfl
theorem jn_at {h : Nat → Int} {k q r s : Nat} (hq : k / 4 = q) (hr : k % 4 = r) (hs : 8 * r = s) : IntKind.u8.wrap (h q / 2 ^ s) = jn h k := by
  rw [IntKind.wrap_u8]
  unfold jn
  rw [hq, hr, hs]
theorem info20 : (Tryd.prog.info? 43).map (·.size) = some 20 := by kernel_rfl
set_option maxRecDepth 100000 in
set_option maxHeartbeats 1000000 in
-- WHAT joined COMES TO.
theorem joined_any (h : Nat → Int) (hb : ∀ j, 0 ≤ h j ∧ h j < 4294967296) (w : World) : Calls Tryd.prog 56 #[.agg (ar .u32 5 h)] w fun e w' => e = .returned (.agg (ar .u8 20 (jn h))) ∧ Below w.heap.size w w' := by
  have HB := Lib.hid hb; clear hb
  have HI : Hid ((Tryd.prog.info? 43).map (·.size) = some (ar .u8 20 (jn h)).size) := Lib.hid (by rw [ar_size]; exact info20)
  go_enter Tryd.func56, Tryd.ntmps56
  go_wp2
  go_loopw [5] (fun i wr => ∃ k : Nat, k ≤ 20 ∧ i = .int .i64 k ∧ Hid (wr.heap[w.heap.size]? = some (.cells (ar .u32 5 h) 47 (0, 0)) ∧ wr.heap[w.heap.size + 1]? = some (.cells (ar .u8 20 (jnd h 0)) 43 (0, 0)) ∧ wr.heap[w.heap.size + 1 + 1]? = some (.cells (ar .u8 20 (jnd h k)) 43 (0, 0)) ∧ Below w.heap.size w wr)) (fun i _ => 20 - (intOf i).toNat)
  case atStart =>
    refine ⟨0, by omega, rfl, Lib.hid ⟨(heap3 _ _ _ _).1, ?_, ?_, by go_grown⟩⟩
    · rw [jnd_none]; exact (heap3 _ _ _ _).2.1
    · rw [jnd_none]; exact (heap3 _ _ _ _).2.2
  case round =>
    obtain ⟨k, hk, rfl, H⟩ := hrel
    have hk0 : (0 : Int) ≤ k := by omega
    have hk1 : (k : Int) ≤ 20 := by omega
    by_cases hlt : k < 20
    · obtain ⟨q, hq⟩ : ∃ q : Nat, (k : Int) / 4 = (q : Int) := ⟨k / 4, by omega⟩
      obtain ⟨r, hr⟩ : ∃ r : Nat, (k : Int) % 4 = (r : Int) := ⟨k % 4, by omega⟩
      obtain ⟨s, hs⟩ : ∃ s : Nat, 8 * (r : Int) = (s : Int) := ⟨8 * r, by omega⟩
      have hq0 : (0 : Int) ≤ q := by omega
      have hq1 : (q : Int) < 5 := by omega
      have hr0 : (0 : Int) ≤ r := by omega
      have hr4 : (r : Int) < 4 := by omega
      have hs0 : (0 : Int) ≤ s := by omega
      have hs1 : (s : Int) < 32 := by omega
      have hlt' : (k : Int) < 20 := by omega
      have ci : wr.cell? ⟨w.heap.size, q, none⟩ = some (.int .u32 (h q)) := (cell_of_row wr _ q _ _ _ H.out.1).trans (ar_at _ _ _ _ (by omega))
      have co : wr.cell? ⟨w.heap.size + 1 + 1, k, none⟩ = some (.int .u8 (jnd h k k)) := (cell_of_row wr _ k _ _ _ H.out.2.2.1).trans (ar_at _ _ _ _ (by omega))
      have fo : wr.frozen? ⟨w.heap.size + 1 + 1, k, none⟩ = false := frozen_of_row wr _ k _ _ H.out.2.2.1
      have hb := HB.out q
      have hx0 : 0 ≤ h q := hb.1
      have hx1 : h q < 4294967296 := hb.2
      have hv : IntKind.u8.wrap (h q / 2 ^ s) = jn h k := jn_at (r := r) (by omega) (by omega) (by omega)
      clear hb
      go_wp2_with fail
      go_roundw
      case rel =>
        refine ⟨k + 1, by omega, by go_num, Lib.hid ⟨(heap_setCell_other _ _ _ _ (by simp; omega)).trans H.out.1, (heap_setCell_other _ _ _ _ (by simp)).trans H.out.2.1, ?_, H.out.2.2.2.setCell (by simp; omega) _⟩⟩
        refine (heap_setCell_same _ _ _ _ _ _ H.out.2.2.1).trans ?_
        rw [ar_set _ _ _ _ _ hlt]
        congr 2
        exact ar_congr (fun j _ => jnd_next j)
      case measure => simp [intOf]; omega
    · obtain rfl : k = 20 := by omega
      have h2 := H.out.2.2.1
      rw [jnd_full] at h2
      have H2 := Lib.hid h2
      clear h2
      go_wp2_with (first | (refine wpList_load_row rfl 43 _ rfl (w.heap.size + 1 + 1) rfl 43 _ (0, 0) _ H2.out Tryd.underlying43 rfl HI.out ?_) | (refine wpList_store_row rfl 43 _ _ rfl (w.heap.size + 1) (ar .u8 20 (jn h)) rfl rfl 43 (ar .u8 20 (jnd h 0)) H.out.2.1 HI.out (by rw [ar_size, ar_size]) (ar_one _ _ _) ?_))
      refine bodyPost_ret (v := .agg (ar .u8 20 (jn h))) (results_cell_row (p := 2) rfl _ _ (w.heap.size + 1) 43 _ (0, 0) _ rfl (setRow_heap _ _ _ _ _ _ H.out.2.1) Tryd.underlying43 rfl HI.out) rfl ⟨rfl, below_setRow H.out.2.2.2 (by omega) _⟩
end Go.Proofs.YtnnbpofdnhnjlaaDoor

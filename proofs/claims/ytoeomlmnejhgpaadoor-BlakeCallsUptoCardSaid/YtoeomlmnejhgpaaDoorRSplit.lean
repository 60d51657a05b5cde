/- RIPEMD-160: what ripemd.split comes to. -/
import Derived.Test.YtoeomlmnejhgpaaDoorRArr
namespace Go.Proofs.YtoeomlmnejhgpaaDoor
open Go.RowKit

/-- r bytes of the number at i, the lowest first. -/
def bsum (f : Nat → Nat) (i : Nat) : Nat → Nat
  | 0 => 0
  | r + 1 => bsum f i r + 2 ^ (8 * r) * f (4 * i + r)
theorem bsum_lt {f : Nat → Nat} (hf : ∀ j, f j < 256) (i : Nat) : ∀ r, bsum f i r < 2 ^ (8 * r)
  | 0 => by simp [bsum]
  | r + 1 => by
    have h1 := bsum_lt hf i r
    have h2 := Nat.mul_le_mul_left (2 ^ (8 * r)) (hf (4 * i + r))
    have h3 : 2 ^ (8 * (r + 1)) = 2 ^ (8 * r) * 256 := by rw [show 8 * (r + 1) = 8 * r + 8 by omega, Nat.pow_add]
    simp only [bsum]
    rw [h3]
    rw [Nat.succ_eq_add_one, Nat.mul_add, Nat.mul_one] at h2
    omega
/-- The numbers of a block once k bytes are in. -/
def ow (f : Nat → Nat) (k j : Nat) : Nat := bsum f j (min 4 (k - 4 * j))
theorem ow_next (f : Nat → Nat) {k q r : Nat} (hk : k = 4 * q + r) (hr : r < 4) (j : Nat) : ow f (k + 1) j = if j = q then ow f k q + 2 ^ (8 * r) * f k else ow f k j := by
  unfold ow
  by_cases e : j = q
  · subst e
    rw [if_pos rfl, show min 4 (k + 1 - 4 * j) = r + 1 by omega, show min 4 (k - 4 * j) = r by omega]
    simp only [bsum]
    rw [hk]
  · rw [if_neg e]
    congr 1
    omega
/-- The numbers of a block. -/
def xw (f : Nat → Nat) (j : Nat) : Nat := bsum f j 4
set_option maxRecDepth 100000 in
set_option maxHeartbeats 1000000 in
theorem split_any (f : Nat → Nat) (hf : ∀ j, f j < 256) (w : World) : Calls Tryd.prog 58 #[.agg (ar .u8 64 fun j => (f j : Nat))] w fun e w' => e = .returned (.agg (ar .u32 16 fun j => (xw f j : Nat))) ∧ Below w.heap.size w w' := by
  have HF := Lib.hid hf; clear hf
  have HI8 : Hid ((Tryd.prog.info? 48).map (·.size) = some (ar .u8 64 fun j => (f j : Nat)).size) := Lib.hid (by rw [ar_size]; kernel_rfl)
  go_enter Tryd.func58, Tryd.ntmps58
  go_wp2_with (refine wpList_load_row rfl 48 _ rfl w.heap.size rfl 48 _ (0, 0) _ (heap3 _ _ _ _).1 Tryd.underlying48 rfl HI8.out ?_)
  go_loopw [7] (fun i wr => ∃ k : Nat, k ≤ 64 ∧ i = .int .i64 k ∧ Hid (wr.heap[w.heap.size + 1]? = some (.cells (ar .u32 16 fun j => (ow f 0 j : Nat)) 92 (0, 0)) ∧ wr.heap[w.heap.size + 1 + 1]? = some (.cells (ar .u32 16 fun j => (ow f k j : Nat)) 92 (0, 0)) ∧ Below w.heap.size w wr)) (fun i _ => 64 - (intOf i).toNat)
  case atStart =>
    have hz : ar .u32 16 (fun j => ((ow f 0 j : Nat) : Int)) = #[.int .u32 0, .int .u32 0, .int .u32 0, .int .u32 0, .int .u32 0, .int .u32 0, .int .u32 0, .int .u32 0, .int .u32 0, .int .u32 0, .int .u32 0, .int .u32 0, .int .u32 0, .int .u32 0, .int .u32 0, .int .u32 0] := by kernel_rfl
    refine ⟨0, by omega, rfl, Lib.hid ⟨?_, ?_, by go_grown⟩⟩
    · rw [hz]; exact (heap3 _ _ _ _).2.1
    · rw [hz]; exact (heap3 _ _ _ _).2.2
  case round =>
    obtain ⟨k, hk, rfl, H⟩ := hrel
    have hk0 : (0 : Int) ≤ k := by omega
    have hk1 : (k : Int) ≤ 64 := by omega
    by_cases hlt : k < 64
    · obtain ⟨q, hq⟩ : ∃ q : Nat, (k : Int) / 4 = (q : Int) := ⟨k / 4, by omega⟩
      obtain ⟨r, hr⟩ : ∃ r : Nat, (k : Int) % 4 = (r : Int) := ⟨k % 4, by omega⟩
      obtain ⟨s, hs⟩ : ∃ s : Nat, 8 * (r : Int) = (s : Int) := ⟨8 * r, by omega⟩
      have hq0 : (0 : Int) ≤ q := by omega
      have hq1 : (q : Int) < 16 := by omega
      have hr0 : (0 : Int) ≤ r := by omega
      have hr4 : (r : Int) < 4 := by omega
      have hs0 : (0 : Int) ≤ s := by omega
      have hs1 : (s : Int) < 32 := by omega
      have hlt' : (k : Int) < 64 := by omega
      have hix : ∀ w, (Instr.index 48 (.agg (ar .u8 64 fun j => (f j : Nat))) (.int .i64 k)).run Tryd.prog w = .ok (.int .u8 (f k : Nat)) w := fun w => index_ar (f := fun j => ((f j : Nat) : Int)) w Tryd.underlying48 (by kernel_rfl) (by kernel_rfl) hlt
      have co : wr.cell? ⟨w.heap.size + 1 + 1, q, none⟩ = some (.int .u32 (ow f k q : Nat)) := (cell_of_row wr _ q _ _ _ H.out.2.1).trans (ar_at _ _ _ _ (by omega))
      have fo : wr.frozen? ⟨w.heap.size + 1 + 1, q, none⟩ = false := frozen_of_row wr _ q _ _ H.out.2.1
      have hfk := HF.out k
      have hx0 : (0 : Int) ≤ ((f k : Nat) : Int) := by omega
      have hx1 : ((f k : Nat) : Int) < 256 := by omega
      have hkq : k = 4 * q + r := by omega
      have hlow : ow f k q < 2 ^ s := by
        unfold ow
        rw [show min 4 (k - 4 * q) = r by omega, show s = 8 * r by omega]
        exact bsum_lt HF.out q r
      have hv := (or_up hfk (show s ≤ 24 by omega) hlow).1
      have HV := Lib.hid hv
      have HK := Lib.hid (And.intro hkq (show 8 * r = s by omega))
      clear hv hlow hkq hfk
      go_wp2_with fail
      go_region
      go_wp2
      go_roundw
      case rel =>
        refine ⟨k + 1, by omega, by go_num, Lib.hid ⟨(heap_setCell_other _ _ _ _ (by simp)).trans H.out.1, ?_, (H.out.2.2.setCell (by simp; omega) _).drew⟩⟩
        rw [HV.out]
        refine (heap_setCell_same _ _ _ _ _ _ H.out.2.1).trans ?_
        rw [ar_set _ _ _ _ _ (by omega)]
        congr 2
        refine ar_congr (fun j _ => ?_)
        unfold updI
        rw [ow_next f HK.out.1 (by omega) j, HK.out.2]
        by_cases e : j = q
        · rw [if_pos e, if_pos e]
        · rw [if_neg e, if_neg e]
      case measure => simp [intOf]; omega
    · obtain rfl : k = 64 := by omega
      have hfull : ar .u32 16 (fun j => ((ow f 64 j : Nat) : Int)) = ar .u32 16 (fun j => ((xw f j : Nat) : Int)) := ar_congr (fun j hj => by
        unfold ow xw
        rw [show min 4 (64 - 4 * j) = 4 by omega])
      have h2 := H.out.2.1
      rw [hfull] at h2
      have H2 := Lib.hid h2
      have HI : Hid ((Tryd.prog.info? 92).map (·.size) = some (ar .u32 16 fun j => ((xw f j : Nat) : Int)).size) := Lib.hid (by rw [ar_size]; kernel_rfl)
      clear h2 hfull
      go_wp2_with (first | (refine wpList_load_row rfl 92 _ rfl (w.heap.size + 1 + 1) rfl 92 _ (0, 0) _ H2.out Tryd.underlying92 rfl HI.out ?_) | (refine wpList_store_row rfl 92 _ _ rfl (w.heap.size + 1) (ar .u32 16 fun j => ((xw f j : Nat) : Int)) rfl rfl 92 (ar .u32 16 fun j => (ow f 0 j : Nat)) H.out.1 HI.out (by rw [ar_size, ar_size]) (ar_one _ _ _) ?_))
      refine bodyPost_ret (v := .agg (ar .u32 16 fun j => ((xw f j : Nat) : Int))) (results_cell_row (p := 2) rfl _ _ (w.heap.size + 1) 92 _ (0, 0) _ rfl (setRow_heap _ _ _ _ _ _ H.out.1) Tryd.underlying92 rfl HI.out) rfl ⟨rfl, below_setRow H.out.2.2 (by omega) _⟩
end Go.Proofs.YtoeomlmnejhgpaaDoor

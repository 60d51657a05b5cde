/- bailiwicklaw05.RipemdBlocks answers true, whatever the numbers and the bytes. -/
import Derived.Test.YtnnbpofdnhnjlaaDoorRLiv
import Derived.Test.YtnnbpofdnhnjlaaDoorRRBlk2
namespace Go.Proofs.YtnnbpofdnhnjlaaDoor
open Go.RowKit

/-- The first k bytes, behind them noughts. -/
def xl (f : Nat → Nat) (k j : Nat) : Nat := if j < k then f j else 0
theorem xl_next {f : Nat → Nat} {k : Nat} (j : Nat) : updI (fun j => ((xl f k j : Nat) : Int)) k ((f k : Nat) : Int) j = ((xl f (k + 1) j : Nat) : Int) := by
  unfold updI xl
  by_cases e : j = k
  · subst e
    rw [if_pos rfl, if_pos (by omega)]
  · rw [if_neg e]
    by_cases e2 : j < k
    · simp only [if_pos e2, if_pos (show j < k + 1 by omega)]
    · simp only [if_neg e2, if_neg (show ¬ j < k + 1 by omega)]
/-- The worlds of the law's last region. -/
structure CL (w : World) (h : Nat → Int) (x : Nat → Nat) (wx : World) : Prop where
  old : Below w.heap.size w wx
  r0 : wx.heap[w.heap.size]? = some (.cells (ar .u32 5 h) 47 (0, 0))
  r1 : wx.heap[w.heap.size + 1]? = some (.cells (ar .u8 64 fun j => (x j : Nat)) 48 (0, 0))
theorem CL.below {w wx w' : World} {h : Nat → Int} {x : Nat → Nat} (c : CL w h x wx) (hb : Below wx.heap.size wx w') : CL w h x w' := by
  have l := (Array.getElem?_eq_some_iff.1 c.r1).1
  exact ⟨c.old.trans (hb.mono c.old.size), (hb.block _ (by omega)).trans c.r0, (hb.block _ (by omega)).trans c.r1⟩
theorem load_64r {g : Nat} {x : Nat → Nat} {w : World} (hg : w.heap[g]? = some (.cells (ar .u8 64 fun j => (x j : Nat)) 48 (0, 0))) : (Instr.loadAt 48 (.pointer (some ⟨g, 0, none⟩))).run Tryd.prog w = .ok (.agg (ar .u8 64 fun j => (x j : Nat))) w := by
  simp only [Instr.loadAt, Instr.sureAddr, Sem.run_bind, Sem.run_pure, Result.andThen_ok, run_loadVar_row w g 48 48 (ar .u8 64 fun j => (x j : Nat)) (0, 0) _ hg Tryd.underlying48 rfl (by rw [ar_size]; exact info64)]
set_option maxRecDepth 100000 in
set_option maxHeartbeats 4000000 in
theorem blocks_any (h : Nat → Int) {n : Nat} {f : Nat → Nat} {v : Value} {w : World} (hf : ∀ j, f j < 256) (hT : Tabs w) (hP : ArgB w v n f) : Calls Tryd.prog 9 #[.agg (ar .u32 5 h), v] w fun e w' => e = .returned (.bool true) ∧ Below w.heap.size w w' := by
  obtain ⟨a, cap, rfl, hc, -, hr⟩ := hP
  have HR := Lib.hid hr
  have HF := Lib.hid hf
  have HT := Lib.hid hT
  clear hr hf hT hc
  go_enter Tryd.func9, Tryd.ntmps9
  go_wp2_with (refine wpList_store_row rfl 48 _ _ rfl (w.heap.size + 1) (ar .u8 64 fun j => (xl f 0 j : Nat)) (by kernel_rfl) (by kernel_rfl) 48 _ (heap_alloc2_new _ _ _) (by rw [ar_size]; exact info64) (by rw [ar_size]; rfl) (ar_one _ _ _) ?_)
  go_loopw [6] (fun i wr => ∃ k : Nat, k ≤ n ∧ k ≤ 64 ∧ i = .int .i64 k ∧ Hid (CL w h (xl f k) wr)) (fun i _ => 64 - (intOf i).toNat)
  case atStart =>
    exact ⟨0, by omega, by omega, rfl, Lib.hid ⟨below_setRow (by go_grown) (by omega) _, (setRow_other _ _ _ _ (by omega)).trans (heap_alloc2_old _ _ _), setRow_heap _ _ _ _ _ _ (heap_alloc2_new _ _ _)⟩⟩
  case round =>
    obtain ⟨k, hk, hk64, rfl, H⟩ := hrel
    have hk0 : (0 : Int) ≤ k := by omega
    have HB := Lib.hid (show ∀ wx, CL w h (xl f k) wx → Calls Tryd.prog 34 #[.agg (ar .u32 5 h), .agg (ar .u8 64 fun j => (xl f k j : Nat))] wx (fun e w' => e = .returned (.agg (ar .u32 5 (blk h fun j => (xw (xl f k) j : Nat)))) ∧ CL w h (xl f k) w') from fun wx c => (block_any h (xl f k) (fun j => by unfold xl; have := HF.out j; split <;> omega) wx (HT.out.below c.old)).mono (fun e w' h => ⟨h.1, c.below h.2⟩))
    have HBR := Lib.hid (show ∀ wx, CL w h (xl f k) wx → Calls Tryd.prog 35 #[.agg (ar .u32 5 h), .agg (ar .u8 64 fun j => (xl f k j : Nat))] wx (fun e w' => e = .returned (.agg (ar .u32 5 (blk h fun j => (xw (xl f k) j : Nat)))) ∧ CL w h (xl f k) w') from fun wx c => (rblock_any h (xl f k) (fun j => by unfold xl; have := HF.out j; split <;> omega) wx).mono (fun e w' h => ⟨h.1, c.below h.2⟩))
    have HL := Lib.hid (show ∀ wx, CL w h (xl f k) wx → Calls Tryd.prog 33 #[] wx (fun e w' => e = .returned (.bool true) ∧ CL w h (xl f k) w') from fun wx c => (lives_any wx (HT.out.below c.old)).mono (fun e w' h => ⟨h.1, c.below h.2⟩))
    obtain ⟨r, hr⟩ : ∃ r, (blk h fun j => ((xw (xl f k) j : Nat) : Int)) = r := ⟨_, rfl⟩
    rw [hr] at HB HBR
    clear hr
    by_cases hlt : k < n
    · have hlt' : (k : Int) < n := by omega
      by_cases h64 : k < 64
      · have h64' : (k : Int) < 64 := by omega
        obtain ⟨p, hix, hpb, cp⟩ := HR.out.at_ cap k hlt
        have ci := (H.out.old.cell hpb).trans cp
        have co : wr.cell? ⟨w.heap.size + 1, k, none⟩ = some (.int .u8 (xl f k k : Nat)) := (cell_of_row wr _ k _ _ _ H.out.r1).trans (ar_at _ _ _ _ h64)
        have fo : wr.frozen? ⟨w.heap.size + 1, k, none⟩ = false := frozen_of_row wr _ k _ _ H.out.r1
        clear HB HBR HL cp hpb
        go_wp2_with fail
        go_roundw
        case rel =>
          refine ⟨k + 1, by omega, by omega, by go_num, Lib.hid ⟨H.out.old.setCell (by simp) _, (heap_setCell_other _ _ _ _ (by simp)).trans H.out.r0, ?_⟩⟩
          refine (heap_setCell_same _ _ _ _ _ _ H.out.r1).trans ?_
          rw [ar_set _ _ _ _ _ h64]
          congr 2
          exact ar_congr (fun j _ => xl_next j)
        case measure => simp [intOf]; omega
      · have h64' : ¬ (k : Int) < 64 := by omega
        go_wp2_with fail
        refine wp_region_quiet (C := CL w h (xl f k)) (by kernel_rfl) (by kernel_rfl) (H.out.below (Below.drew (Below.refl _ _))) ?_
        simp only
        with_reducible refine q_load 47 (.tmp 2) (.pointer (some ⟨w.heap.size, 0, none⟩)) (.agg (ar .u32 5 h)) rfl (by kernel_rfl) (by kernel_rfl) (fun _ c => load_5 c.r0) ?_
        with_reducible refine q_load 48 (.tmp 5) (.pointer (some ⟨w.heap.size + 1, 0, none⟩)) (.agg (ar .u8 64 fun j => (xl f k j : Nat))) rfl (by kernel_rfl) (by kernel_rfl) (fun _ c => load_64r c.r1) ?_
        with_reducible refine q_call 34 #[.agg (ar .u32 5 h), .agg (ar .u8 64 fun j => (xl f k j : Nat))] (.agg (ar .u32 5 r)) (by kernel_rfl) (fun _ => by kernel_rfl) HB.out ?_
        with_reducible refine q_load 47 (.tmp 2) (.pointer (some ⟨w.heap.size, 0, none⟩)) (.agg (ar .u32 5 h)) rfl (by kernel_rfl) (by kernel_rfl) (fun _ c => load_5 c.r0) ?_
        with_reducible refine q_load 48 (.tmp 5) (.pointer (some ⟨w.heap.size + 1, 0, none⟩)) (.agg (ar .u8 64 fun j => (xl f k j : Nat))) rfl (by kernel_rfl) (by kernel_rfl) (fun _ c => load_64r c.r1) ?_
        with_reducible refine q_call 35 #[.agg (ar .u32 5 h), .agg (ar .u8 64 fun j => (xl f k j : Nat))] (.agg (ar .u32 5 r)) (by kernel_rfl) (fun _ => by kernel_rfl) HBR.out ?_
        with_reducible refine q_bin .eql 47 _ _ 47 (.agg (ar .u32 5 r)) (.agg (ar .u32 5 r)) (.bool true) rfl (by kernel_rfl) (by kernel_rfl) (by kernel_rfl) (fun w => eqg5 r _ _ w) (fun w => eqb5 r w) ?_
        with_reducible refine q_val (.bool true) (by kernel_rfl) (fun _ _ => by kernel_rfl) ?_
        with_reducible refine q_call 33 #[] (.bool true) (by kernel_rfl) (fun _ => by kernel_rfl) HL.out ?_
        with_reducible refine q_val (.bool true) (by kernel_rfl) (fun _ _ => by kernel_rfl) ?_
        with_reducible refine q_val (.bool true) (by kernel_rfl) (fun _ _ => by kernel_rfl) ?_
        with_reducible refine wpQuiet_nil ?_
        intro wx hC
        have HC := Lib.hid hC
        clear hC
        simp only [Act.put, List.setIfInBounds_toArray, List.set_cons_succ, List.set_cons_zero]
        go_wp2_with fail
        go_ret
        exact ⟨rfl, HC.out.old⟩
    · have hlt' : ¬ (k : Int) < n := by omega
      go_wp2_with fail
      refine wp_region_quiet (C := CL w h (xl f k)) (by kernel_rfl) (by kernel_rfl) (H.out.below (Below.drew (Below.refl _ _))) ?_
      simp only
      with_reducible refine q_load 47 (.tmp 2) (.pointer (some ⟨w.heap.size, 0, none⟩)) (.agg (ar .u32 5 h)) rfl (by kernel_rfl) (by kernel_rfl) (fun _ c => load_5 c.r0) ?_
      with_reducible refine q_load 48 (.tmp 5) (.pointer (some ⟨w.heap.size + 1, 0, none⟩)) (.agg (ar .u8 64 fun j => (xl f k j : Nat))) rfl (by kernel_rfl) (by kernel_rfl) (fun _ c => load_64r c.r1) ?_
      with_reducible refine q_call 34 #[.agg (ar .u32 5 h), .agg (ar .u8 64 fun j => (xl f k j : Nat))] (.agg (ar .u32 5 r)) (by kernel_rfl) (fun _ => by kernel_rfl) HB.out ?_
      with_reducible refine q_load 47 (.tmp 2) (.pointer (some ⟨w.heap.size, 0, none⟩)) (.agg (ar .u32 5 h)) rfl (by kernel_rfl) (by kernel_rfl) (fun _ c => load_5 c.r0) ?_
      with_reducible refine q_load 48 (.tmp 5) (.pointer (some ⟨w.heap.size + 1, 0, none⟩)) (.agg (ar .u8 64 fun j => (xl f k j : Nat))) rfl (by kernel_rfl) (by kernel_rfl) (fun _ c => load_64r c.r1) ?_
      with_reducible refine q_call 35 #[.agg (ar .u32 5 h), .agg (ar .u8 64 fun j => (xl f k j : Nat))] (.agg (ar .u32 5 r)) (by kernel_rfl) (fun _ => by kernel_rfl) HBR.out ?_
      with_reducible refine q_bin .eql 47 _ _ 47 (.agg (ar .u32 5 r)) (.agg (ar .u32 5 r)) (.bool true) rfl (by kernel_rfl) (by kernel_rfl) (by kernel_rfl) (fun w => eqg5 r _ _ w) (fun w => eqb5 r w) ?_
      with_reducible refine q_val (.bool true) (by kernel_rfl) (fun _ _ => by kernel_rfl) ?_
      with_reducible refine q_call 33 #[] (.bool true) (by kernel_rfl) (fun _ => by kernel_rfl) HL.out ?_
      with_reducible refine q_val (.bool true) (by kernel_rfl) (fun _ _ => by kernel_rfl) ?_
      with_reducible refine q_val (.bool true) (by kernel_rfl) (fun _ _ => by kernel_rfl) ?_
      with_reducible refine wpQuiet_nil ?_
      intro wx hC
      have HC := Lib.hid hC
      clear hC
      simp only [Act.put, List.setIfInBounds_toArray, List.set_cons_succ, List.set_cons_zero]
      go_wp2_with fail
      go_ret
      exact ⟨rfl, HC.out.old⟩
end Go.Proofs.YtnnbpofdnhnjlaaDoor

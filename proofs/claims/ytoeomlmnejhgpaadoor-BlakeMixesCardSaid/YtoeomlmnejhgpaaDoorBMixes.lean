/- bailiwicklaw06.BlakeMixes answers true, whatever is given. -/
import Derived.Test.YtoeomlmnejhgpaaDoorBLiv
namespace Go.Proofs.YtoeomlmnejhgpaaDoor
open Go.RowKit
set_option maxRecDepth 100000 in
set_option maxHeartbeats 4000000 in
theorem bmixes_any (r : Nat) (h m t : Nat → Int) (last : Bool) (hr : r < 4294967296) (w : World) (hP : Plc w) : Calls Tryd.prog 11 #[.agg (inr r h m t last)] w fun e w' => e = .returned (.bool true) ∧ Below w.heap.size w w' := by
  have HP := Lib.hid hP; clear hP
  have H1 := Lib.hid (show CI w w.heap.size r h m t last (w.alloc (.cells (inr r h m t last) 58)) from ⟨by go_grown, heap_alloc_new _ _⟩)
  have HR := Lib.hid hr
  obtain ⟨cs, hcs⟩ : ∃ cs, inr r h m t last = cs := ⟨_, rfl⟩
  rw [hcs] at H1 ⊢
  have c0 : (w.alloc (.cells cs 58)).cell? ⟨w.heap.size, 0, none⟩ = some (.int .u32 r) := (cell_of_row _ _ 0 _ _ _ (heap_alloc_new _ _)).trans (by rw [← hcs]; exact inr_at r h m t last 0 (by omega))
  have f0 := frozen_of_row (w.alloc (.cells cs 58)) w.heap.size 0 _ _ (heap_alloc_new _ _)
  have hr0 : (0 : Int) ≤ r := by omega
  have HCS := Lib.hid hcs
  clear hcs
  by_cases hg : 3000 < r
  · obtain ⟨q, hq⟩ : ∃ q, r % 3000 = q := ⟨_, rfl⟩
    have hg' : (3000 : Int) < r := by omega
    have ht : (r : Int).tmod 3000 = (q : Int) := by rw [Int.tmod_eq_emod_of_nonneg hr0]; omega
    have ht2 : (r : Int) % 3000 = (q : Int) := by omega
    have HQ := Lib.hid (show q < 4294967296 by omega)
    have H2 := Lib.hid (show CI w w.heap.size q h m t last (w.alloc (.cells (cs.setIfInBounds 0 (.int .u32 q)) 58)) from ⟨by go_grown, by rw [← inr_set0 r q h m t last, HCS.out]; exact heap_alloc_new _ _⟩)
    clear hq hg
    go_enter Tryd.func11, Tryd.ntmps11
    go_wp2_with fail
    refine wp_region_quiet (C := CI w w.heap.size q h m t last) (by kernel_rfl) (by kernel_rfl) (H2.out.below (Below.drew (Below.refl _ _))) ?_
    simp only
    have HF := Lib.hid (fun wx (c : CI w w.heap.size q h m t last wx) => f_in q HQ.out HP.out wx c m)
    have HG := Lib.hid (fun wx (c : CI w w.heap.size q h m t last wx) => rf_in q HQ.out wx c m)
    have HL := Lib.hid (show ∀ wx, CI w w.heap.size q h m t last wx → Calls Tryd.prog 38 #[] wx (fun e w' => e = .returned (.bool true) ∧ CI w w.heap.size q h m t last w') from fun wx c => (blives_any wx (HP.out.below c.old)).mono fun e w' hh => ⟨hh.1, c.below hh.2⟩)
    obtain ⟨ro, hro⟩ : ∃ ro, bfi h (vrn (bgn h t last) m (min q 65536)) = ro := ⟨_, rfl⟩
    rw [hro] at HF HG
    clear hro
    with_reducible refine q_val (.pointer (some ⟨w.heap.size, 0, none⟩)) (by kernel_rfl) (fun _ _ => by kernel_rfl) ?_
    with_reducible refine q_load 46 (.tmp 10) (.pointer (some ⟨w.heap.size, 0, none⟩)) (.int .u32 q) rfl (by kernel_rfl) (by kernel_rfl) (fun _ c => in_r c.row) ?_
    with_reducible refine q_val (.pointer (some ⟨w.heap.size, 1, none⟩)) (by kernel_rfl) (fun _ _ => by kernel_rfl) ?_
    with_reducible refine q_load 54 (.tmp 12) (.pointer (some ⟨w.heap.size, 1, none⟩)) (.agg (ar .u64 8 h)) rfl (by kernel_rfl) (by kernel_rfl) (fun _ c => in_h c.row) ?_
    with_reducible refine q_val (.pointer (some ⟨w.heap.size, 9, none⟩)) (by kernel_rfl) (fun _ _ => by kernel_rfl) ?_
    with_reducible refine q_load 55 (.tmp 14) (.pointer (some ⟨w.heap.size, 9, none⟩)) (.agg (ar .u64 16 m)) rfl (by kernel_rfl) (by kernel_rfl) (fun _ c => in_m c.row) ?_
    with_reducible refine q_val (.pointer (some ⟨w.heap.size, 25, none⟩)) (by kernel_rfl) (fun _ _ => by kernel_rfl) ?_
    with_reducible refine q_load 56 (.tmp 16) (.pointer (some ⟨w.heap.size, 25, none⟩)) (.agg (ar .u64 2 t)) rfl (by kernel_rfl) (by kernel_rfl) (fun _ c => in_t c.row) ?_
    with_reducible refine q_val (.pointer (some ⟨w.heap.size, 27, none⟩)) (by kernel_rfl) (fun _ _ => by kernel_rfl) ?_
    with_reducible refine q_load 4 (.tmp 18) (.pointer (some ⟨w.heap.size, 27, none⟩)) (.bool last) rfl (by kernel_rfl) (by kernel_rfl) (fun _ c => in_l c.row) ?_
    with_reducible refine q_call 36 #[.int .u32 q, .agg (ar .u64 8 h), .agg (ar .u64 16 m), .agg (ar .u64 2 t), .bool last] (.agg (ar .u64 8 ro)) (by kernel_rfl) (fun _ => by kernel_rfl) (HF.out) ?_
    with_reducible refine q_val (.pointer (some ⟨w.heap.size, 0, none⟩)) (by kernel_rfl) (fun _ _ => by kernel_rfl) ?_
    with_reducible refine q_load 46 (.tmp 21) (.pointer (some ⟨w.heap.size, 0, none⟩)) (.int .u32 q) rfl (by kernel_rfl) (by kernel_rfl) (fun _ c => in_r c.row) ?_
    with_reducible refine q_val (.pointer (some ⟨w.heap.size, 1, none⟩)) (by kernel_rfl) (fun _ _ => by kernel_rfl) ?_
    with_reducible refine q_load 54 (.tmp 23) (.pointer (some ⟨w.heap.size, 1, none⟩)) (.agg (ar .u64 8 h)) rfl (by kernel_rfl) (by kernel_rfl) (fun _ c => in_h c.row) ?_
    with_reducible refine q_val (.pointer (some ⟨w.heap.size, 9, none⟩)) (by kernel_rfl) (fun _ _ => by kernel_rfl) ?_
    with_reducible refine q_load 55 (.tmp 25) (.pointer (some ⟨w.heap.size, 9, none⟩)) (.agg (ar .u64 16 m)) rfl (by kernel_rfl) (by kernel_rfl) (fun _ c => in_m c.row) ?_
    with_reducible refine q_val (.pointer (some ⟨w.heap.size, 25, none⟩)) (by kernel_rfl) (fun _ _ => by kernel_rfl) ?_
    with_reducible refine q_load 56 (.tmp 27) (.pointer (some ⟨w.heap.size, 25, none⟩)) (.agg (ar .u64 2 t)) rfl (by kernel_rfl) (by kernel_rfl) (fun _ c => in_t c.row) ?_
    with_reducible refine q_val (.pointer (some ⟨w.heap.size, 27, none⟩)) (by kernel_rfl) (fun _ _ => by kernel_rfl) ?_
    with_reducible refine q_load 4 (.tmp 29) (.pointer (some ⟨w.heap.size, 27, none⟩)) (.bool last) rfl (by kernel_rfl) (by kernel_rfl) (fun _ c => in_l c.row) ?_
    with_reducible refine q_call 37 #[.int .u32 q, .agg (ar .u64 8 h), .agg (ar .u64 16 m), .agg (ar .u64 2 t), .bool last] (.agg (ar .u64 8 ro)) (by kernel_rfl) (fun _ => by kernel_rfl) (HG.out) ?_
    with_reducible refine q_bin .eql 54 _ _ 54 (.agg (ar .u64 8 ro)) (.agg (ar .u64 8 ro)) (.bool true) rfl (by kernel_rfl) (by kernel_rfl) (by kernel_rfl) (fun w => eqg8 ro _ _ w) (fun w => eqb8 ro w) ?_
    with_reducible refine q_val (.bool true) (by kernel_rfl) (fun _ _ => by kernel_rfl) ?_
    with_reducible refine q_call 38 #[] (.bool true) (by kernel_rfl) (fun _ => by kernel_rfl) (HL.out) ?_
    with_reducible refine q_val (.bool true) (by kernel_rfl) (fun _ _ => by kernel_rfl) ?_
    with_reducible refine q_val (.bool true) (by kernel_rfl) (fun _ _ => by kernel_rfl) ?_
    with_reducible refine wpQuiet_nil ?_
    intro wx hC
    have HC := Lib.hid hC
    clear hC
    simp only [Act.put, List.setIfInBounds_toArray, List.set_cons_succ, List.set_cons_zero]
    go_wp2_with fail
    go_ret
    exact ⟨rfl, HC.out.old⟩
  · have hg' : ¬ (3000 : Int) < r := by omega
    have H2 := Lib.hid (show CI w w.heap.size r h m t last (w.alloc (.cells cs 58)) from ⟨H1.out.old, by rw [HCS.out]; exact heap_alloc_new _ _⟩)
    clear hg
    have HQ := HR
    go_enter Tryd.func11, Tryd.ntmps11
    go_wp2_with fail
    refine wp_region_quiet (C := CI w w.heap.size r h m t last) (by kernel_rfl) (by kernel_rfl) (H2.out.below (Below.drew (Below.refl _ _))) ?_
    simp only
    have HF := Lib.hid (fun wx (c : CI w w.heap.size r h m t last wx) => f_in r HQ.out HP.out wx c m)
    have HG := Lib.hid (fun wx (c : CI w w.heap.size r h m t last wx) => rf_in r HQ.out wx c m)
    have HL := Lib.hid (show ∀ wx, CI w w.heap.size r h m t last wx → Calls Tryd.prog 38 #[] wx (fun e w' => e = .returned (.bool true) ∧ CI w w.heap.size r h m t last w') from fun wx c => (blives_any wx (HP.out.below c.old)).mono fun e w' hh => ⟨hh.1, c.below hh.2⟩)
    obtain ⟨ro, hro⟩ : ∃ ro, bfi h (vrn (bgn h t last) m (min r 65536)) = ro := ⟨_, rfl⟩
    rw [hro] at HF HG
    clear hro
    with_reducible refine q_val (.pointer (some ⟨w.heap.size, 0, none⟩)) (by kernel_rfl) (fun _ _ => by kernel_rfl) ?_
    with_reducible refine q_load 46 (.tmp 10) (.pointer (some ⟨w.heap.size, 0, none⟩)) (.int .u32 r) rfl (by kernel_rfl) (by kernel_rfl) (fun _ c => in_r c.row) ?_
    with_reducible refine q_val (.pointer (some ⟨w.heap.size, 1, none⟩)) (by kernel_rfl) (fun _ _ => by kernel_rfl) ?_
    with_reducible refine q_load 54 (.tmp 12) (.pointer (some ⟨w.heap.size, 1, none⟩)) (.agg (ar .u64 8 h)) rfl (by kernel_rfl) (by kernel_rfl) (fun _ c => in_h c.row) ?_
    with_reducible refine q_val (.pointer (some ⟨w.heap.size, 9, none⟩)) (by kernel_rfl) (fun _ _ => by kernel_rfl) ?_
    with_reducible refine q_load 55 (.tmp 14) (.pointer (some ⟨w.heap.size, 9, none⟩)) (.agg (ar .u64 16 m)) rfl (by kernel_rfl) (by kernel_rfl) (fun _ c => in_m c.row) ?_
    with_reducible refine q_val (.pointer (some ⟨w.heap.size, 25, none⟩)) (by kernel_rfl) (fun _ _ => by kernel_rfl) ?_
    with_reducible refine q_load 56 (.tmp 16) (.pointer (some ⟨w.heap.size, 25, none⟩)) (.agg (ar .u64 2 t)) rfl (by kernel_rfl) (by kernel_rfl) (fun _ c => in_t c.row) ?_
    with_reducible refine q_val (.pointer (some ⟨w.heap.size, 27, none⟩)) (by kernel_rfl) (fun _ _ => by kernel_rfl) ?_
    with_reducible refine q_load 4 (.tmp 18) (.pointer (some ⟨w.heap.size, 27, none⟩)) (.bool last) rfl (by kernel_rfl) (by kernel_rfl) (fun _ c => in_l c.row) ?_
    with_reducible refine q_call 36 #[.int .u32 r, .agg (ar .u64 8 h), .agg (ar .u64 16 m), .agg (ar .u64 2 t), .bool last] (.agg (ar .u64 8 ro)) (by kernel_rfl) (fun _ => by kernel_rfl) (HF.out) ?_
    with_reducible refine q_val (.pointer (some ⟨w.heap.size, 0, none⟩)) (by kernel_rfl) (fun _ _ => by kernel_rfl) ?_
    with_reducible refine q_load 46 (.tmp 21) (.pointer (some ⟨w.heap.size, 0, none⟩)) (.int .u32 r) rfl (by kernel_rfl) (by kernel_rfl) (fun _ c => in_r c.row) ?_
    with_reducible refine q_val (.pointer (some ⟨w.heap.size, 1, none⟩)) (by kernel_rfl) (fun _ _ => by kernel_rfl) ?_
    with_reducible refine q_load 54 (.tmp 23) (.pointer (some ⟨w.heap.size, 1, none⟩)) (.agg (ar .u64 8 h)) rfl (by kernel_rfl) (by kernel_rfl) (fun _ c => in_h c.row) ?_
    with_reducible refine q_val (.pointer (some ⟨w.heap.size, 9, none⟩)) (by kernel_rfl) (fun _ _ => by kernel_rfl) ?_
    with_reducible refine q_load 55 (.tmp 25) (.pointer (some ⟨w.heap.size, 9, none⟩)) (.agg (ar .u64 16 m)) rfl (by kernel_rfl) (by kernel_rfl) (fun _ c => in_m c.row) ?_
    with_reducible refine q_val (.pointer (some ⟨w.heap.size, 25, none⟩)) (by kernel_rfl) (fun _ _ => by kernel_rfl) ?_
    with_reducible refine q_load 56 (.tmp 27) (.pointer (some ⟨w.heap.size, 25, none⟩)) (.agg (ar .u64 2 t)) rfl (by kernel_rfl) (by kernel_rfl) (fun _ c => in_t c.row) ?_
    with_reducible refine q_val (.pointer (some ⟨w.heap.size, 27, none⟩)) (by kernel_rfl) (fun _ _ => by kernel_rfl) ?_
    with_reducible refine q_load 4 (.tmp 29) (.pointer (some ⟨w.heap.size, 27, none⟩)) (.bool last) rfl (by kernel_rfl) (by kernel_rfl) (fun _ c => in_l c.row) ?_
    with_reducible refine q_call 37 #[.int .u32 r, .agg (ar .u64 8 h), .agg (ar .u64 16 m), .agg (ar .u64 2 t), .bool last] (.agg (ar .u64 8 ro)) (by kernel_rfl) (fun _ => by kernel_rfl) (HG.out) ?_
    with_reducible refine q_bin .eql 54 _ _ 54 (.agg (ar .u64 8 ro)) (.agg (ar .u64 8 ro)) (.bool true) rfl (by kernel_rfl) (by kernel_rfl) (by kernel_rfl) (fun w => eqg8 ro _ _ w) (fun w => eqb8 ro w) ?_
    with_reducible refine q_val (.bool true) (by kernel_rfl) (fun _ _ => by kernel_rfl) ?_
    with_reducible refine q_call 38 #[] (.bool true) (by kernel_rfl) (fun _ => by kernel_rfl) (HL.out) ?_
    with_reducible refine q_val (.bool true) (by kernel_rfl) (fun _ _ => by kernel_rfl) ?_
    with_reducible refine q_val (.bool true) (by kernel_rfl) (fun _ _ => by kernel_rfl) ?_
    with_reducible refine wpQuiet_nil ?_
    intro wx hC
    have HC := Lib.hid hC
    clear hC
    simp only [Act.put, List.setIfInBounds_toArray, List.set_cons_succ, List.set_cons_zero]
    go_wp2_with fail
    go_ret
    exact ⟨rfl, HC.out.old⟩
end Go.Proofs.YtoeomlmnejhgpaaDoor

/- bailiwicklaw06.BlakeHangs answers true, whatever is given. -/
import Derived.Test.YtoeomlmnejhgpaaDoorBLiv
import Derived.Test.YtoeomlmnejhgpaaDoorPair
namespace Go.Proofs.YtoeomlmnejhgpaaDoor
open Go.RowKit
/-- The worlds of the law: both that are given. -/
structure CH (w : World) (r : Nat) (h m m2 t : Nat → Int) (last : Bool) (wx : World) : Prop where
  old : Below w.heap.size w wx
  x : wx.heap[w.heap.size]? = some (.cells (inr r h m t last) 58 (0, 0))
  y : wx.heap[w.heap.size + 1]? = some (.cells (inr r h m2 t last) 58 (0, 0))
theorem CH.below {w wx w' : World} {r : Nat} {h m m2 t : Nat → Int} {last : Bool} (c : CH w r h m m2 t last wx) (hb : Below wx.heap.size wx w') : CH w r h m m2 t last w' :=
  ⟨c.old.trans (hb.mono c.old.size), (hb.block _ (Array.getElem?_eq_some_iff.1 c.x).1).trans c.x, (hb.block _ (Array.getElem?_eq_some_iff.1 c.y).1).trans c.y⟩
structure CK (w : World) (g g2 : Nat) (r : Nat) (h m m2 t : Nat → Int) (last : Bool) (ra rb : Nat → Int) (wx : World) : Prop where
  c : CH w r h m m2 t last wx
  a : wx.heap[g]? = some (.cells (ar .u64 8 ra) 54 (0, 0))
  b : wx.heap[g2]? = some (.cells (ar .u64 8 rb) 54 (0, 0))
theorem CK.below {w wx w' : World} {g g2 r : Nat} {h m m2 t : Nat → Int} {last : Bool} {ra rb : Nat → Int} (c : CK w g g2 r h m m2 t last ra rb wx) (hb : Below wx.heap.size wx w') : CK w g g2 r h m m2 t last ra rb w' :=
  ⟨c.c.below hb, (hb.block _ (Array.getElem?_eq_some_iff.1 c.a).1).trans c.a, (hb.block _ (Array.getElem?_eq_some_iff.1 c.b).1).trans c.b⟩
theorem CH.high {w wx : World} {r : Nat} {h m m2 t : Nat → Int} {last : Bool} (c : CH w r h m m2 t last wx) : w.heap.size + 2 ≤ wx.heap.size := (Array.getElem?_eq_some_iff.1 c.y).1
theorem CH.drew {w wx : World} {r : Nat} {h m m2 t : Nat → Int} {last : Bool} (c : CH w r h m m2 t last wx) : CH w r h m m2 t last wx.drew := ⟨c.old.drew, c.x, c.y⟩
theorem CH.rowed {w wx : World} {r g : Nat} {h m m2 t : Nat → Int} {last : Bool} {cs : Array Value} (c : CH w r h m m2 t last wx) (hg : w.heap.size + 2 ≤ g) : CH w r h m m2 t last (wx.setRow g cs) :=
  ⟨below_setRow c.old (by omega) _, (setRow_other _ _ _ _ (by omega)).trans c.x, (setRow_other _ _ _ _ (by omega)).trans c.y⟩
theorem store_8r {g : Nat} {w : World} {cs : Array Value} {v : Nat → Int} (hs : cs.size = 8) (hg : w.heap[g]? = some (.cells cs 54 (0, 0))) : (Instr.storeAt 54 (.pointer (some ⟨g, 0, none⟩)) (.agg (ar .u64 8 v))).run Tryd.prog w = .ok () (w.setRow g (ar .u64 8 v)) := by
  simp only [Instr.storeAt, Instr.sureAddr, Sem.run_bind, Sem.run_pure, Result.andThen_ok]
  exact run_storeVar_row w g 54 54 _ _ hg (by rw [ar_size]; exact info8u) (by rw [ar_size, hs]) (ar_one _ _ _)
theorem xor_none (x : Int) (h0 : 0 ≤ x) (h1 : x < 18446744073709551616) : bits .xor .u64 x 0 = x := by
  rw [bits_xor64]
  have e : ((0 : Int) % 2 ^ 64).toNat = 0 := by decide
  rw [e, Nat.xor_zero, IntKind.wrap_u64]
  omega
set_option maxRecDepth 100000 in
set_option maxHeartbeats 8000000 in
theorem bhangs_any (r : Nat) (h m t : Nat → Int) (last : Bool) (at_ by_ : Nat) (hat : at_ < 256) (hby : by_ < 18446744073709551616) (hm : ∀ j, j < 16 → 0 ≤ m j ∧ m j < 18446744073709551616) (w : World) (hP : Plc w) : Calls Tryd.prog 13 #[.agg (inr r h m t last), .int .u8 at_, .int .u64 by_] w fun e w' => e = .returned (.bool true) ∧ Below w.heap.size w w' := by
  have HP := Lib.hid hP; clear hP
  have HM := Lib.hid hm; clear hm
  have HBY := Lib.hid hby; clear hby
  obtain ⟨p, hp⟩ : ∃ p, at_ % 16 = p := ⟨_, rfl⟩
  have ha0 : (0 : Int) ≤ at_ := by omega
  have hrem : (at_ : Int).tmod 16 = (p : Int) := by rw [Int.tmod_eq_emod_of_nonneg ha0]; omega
  have hp0 : (0 : Int) ≤ p := by omega
  have hp1 : (p : Int) < 16 := by omega
  have hrem2 : (at_ : Int) % 16 = (p : Int) := by omega
  have HPP := Lib.hid (show p < 16 by omega)
  obtain ⟨y, hy⟩ : ∃ y, bits .xor .u64 (m p) by_ = y := ⟨_, rfl⟩
  obtain ⟨cs, hcs⟩ : ∃ cs, inr r h m t last = cs := ⟨_, rfl⟩
  have H2 := Lib.hid (show CH w r h m m t last (((w.alloc (.cells cs 58)).alloc (.cells #[.int .u32 0, .int .u64 0, .int .u64 0, .int .u64 0, .int .u64 0, .int .u64 0, .int .u64 0, .int .u64 0, .int .u64 0, .int .u64 0, .int .u64 0, .int .u64 0, .int .u64 0, .int .u64 0, .int .u64 0, .int .u64 0, .int .u64 0, .int .u64 0, .int .u64 0, .int .u64 0, .int .u64 0, .int .u64 0, .int .u64 0, .int .u64 0, .int .u64 0, .int .u64 0, .int .u64 0, .bool false] 58)).setRow (w.heap.size + 1) cs) from ⟨below_setRow (by go_grown) (by omega) _, (setRow_other _ _ _ _ (by omega)).trans (by rw [hcs]; exact heap_alloc2_old _ _ _), by rw [hcs]; exact setRow_heap _ _ _ _ _ _ (heap_alloc2_new _ _ _)⟩)
  have c9 : (((w.alloc (.cells cs 58)).alloc (.cells #[.int .u32 0, .int .u64 0, .int .u64 0, .int .u64 0, .int .u64 0, .int .u64 0, .int .u64 0, .int .u64 0, .int .u64 0, .int .u64 0, .int .u64 0, .int .u64 0, .int .u64 0, .int .u64 0, .int .u64 0, .int .u64 0, .int .u64 0, .int .u64 0, .int .u64 0, .int .u64 0, .int .u64 0, .int .u64 0, .int .u64 0, .int .u64 0, .int .u64 0, .int .u64 0, .int .u64 0, .bool false] 58)).setRow (w.heap.size + 1) cs).cell? ⟨w.heap.size + 1, 9 + p, none⟩ = some (.int .u64 (m p)) := (row_cell H2.out.y (9 + p) (by omega)).trans (by unfold inV; rw [if_neg (by omega), if_neg (by omega), if_pos (by omega), show 9 + p - 9 = p by omega])
  have f9 := frozen_of_row (((w.alloc (.cells cs 58)).alloc (.cells #[.int .u32 0, .int .u64 0, .int .u64 0, .int .u64 0, .int .u64 0, .int .u64 0, .int .u64 0, .int .u64 0, .int .u64 0, .int .u64 0, .int .u64 0, .int .u64 0, .int .u64 0, .int .u64 0, .int .u64 0, .int .u64 0, .int .u64 0, .int .u64 0, .int .u64 0, .int .u64 0, .int .u64 0, .int .u64 0, .int .u64 0, .int .u64 0, .int .u64 0, .int .u64 0, .int .u64 0, .bool false] 58)).setRow (w.heap.size + 1) cs) (w.heap.size + 1) (9 + p) _ _ H2.out.y
  have H3 := Lib.hid (show CH w r h m (updI m p y) t last ((((w.alloc (.cells cs 58)).alloc (.cells #[.int .u32 0, .int .u64 0, .int .u64 0, .int .u64 0, .int .u64 0, .int .u64 0, .int .u64 0, .int .u64 0, .int .u64 0, .int .u64 0, .int .u64 0, .int .u64 0, .int .u64 0, .int .u64 0, .int .u64 0, .int .u64 0, .int .u64 0, .int .u64 0, .int .u64 0, .int .u64 0, .int .u64 0, .int .u64 0, .int .u64 0, .int .u64 0, .int .u64 0, .int .u64 0, .int .u64 0, .bool false] 58)).setRow (w.heap.size + 1) cs).setCell ⟨w.heap.size + 1, 9 + p, none⟩ (.int .u64 y)) from ⟨H2.out.old.setCell (by show w.heap.size ≤ w.heap.size + 1; omega) _, (heap_setCell_other _ _ _ _ (by show w.heap.size ≠ w.heap.size + 1; omega)).trans H2.out.x, (heap_setCell_same _ _ _ _ _ _ H2.out.y).trans (by rw [inr_setm _ _ _ _ _ _ HPP.out])⟩)
  have HCS := Lib.hid hcs
  have hcz : cs.size = 28 := by rw [← hcs]; exact inr_size _ _ _ _ _
  have HCZ : Hid ((Tryd.prog.info? 58).map (·.size) = some cs.size) := Lib.hid (by rw [hcz]; exact infoIn)
  have HC1 : Hid (cs.all (·.oneCell') = true) := Lib.hid (by rw [← hcs]; exact inr_one _ _ _ _ _)
  have HC2 := Lib.hid hcz
  rw [hcs]
  have HY := Lib.hid hy
  clear hcs hcz H2 hat hp
  go_enter Tryd.func13, Tryd.ntmps13
  go_wp2_with (first | (refine wpList_load_row rfl 58 _ rfl w.heap.size rfl 58 cs (0, 0) _ (heap_alloc_new _ _) Tryd.underlying58 rfl HCZ.out ?_) | (refine wpList_store_row rfl 58 _ _ rfl (w.heap.size + 1) cs rfl rfl 58 _ (heap_alloc2_new _ _ _) HCZ.out (by rw [HC2.out]; rfl) HC1.out ?_))
  (try rw [hy])
  obtain ⟨w2, hw2⟩ : ∃ w2, ((((w.alloc (.cells cs 58)).alloc (.cells #[.int .u32 0, .int .u64 0, .int .u64 0, .int .u64 0, .int .u64 0, .int .u64 0, .int .u64 0, .int .u64 0, .int .u64 0, .int .u64 0, .int .u64 0, .int .u64 0, .int .u64 0, .int .u64 0, .int .u64 0, .int .u64 0, .int .u64 0, .int .u64 0, .int .u64 0, .int .u64 0, .int .u64 0, .int .u64 0, .int .u64 0, .int .u64 0, .int .u64 0, .int .u64 0, .int .u64 0, .bool false] 58)).setRow (w.heap.size + 1) cs).setCell ⟨w.heap.size + 1, 9 + p, none⟩ (.int .u64 y)) = w2 := ⟨_, rfl⟩
  rw [hw2] at H3 ⊢
  obtain ⟨m2, hm2⟩ : ∃ m2, updI m p y = m2 := ⟨_, rfl⟩
  rw [hm2] at H3
  have HM2 := Lib.hid hm2
  clear hm2 hw2 c9 f9 HC1 HC2 HCZ hy
  have HFx := Lib.hid (fun (k : Nat) (hk : k < 4294967296) (mm : Nat → Int) wx (c : CH w r h m m2 t last wx) => (bf_any k h mm t last hk wx (HP.out.below c.old)).mono fun e w' (hh : _ ∧ _) => (⟨hh.1, c.below hh.2⟩ : e = .returned (.agg (ar .u64 8 (bfi h (vrn (bgn h t last) mm (min k 65536))))) ∧ CH w r h m m2 t last w'))
  obtain ⟨r0, hr0⟩ : ∃ r0, bfi h (bgn h t last) = r0 := ⟨_, rfl⟩
  obtain ⟨ra, hra⟩ : ∃ ra, bfi h (vrn (bgn h t last) m 1) = ra := ⟨_, rfl⟩
  obtain ⟨rb, hrb⟩ : ∃ rb, bfi h (vrn (bgn h t last) m2 1) = rb := ⟨_, rfl⟩
  have F0 := Lib.hid (fun wx (c : CH w r h m m2 t last wx) => HFx.out 0 (by omega) m wx c)
  have G0 := Lib.hid (fun wx (c : CH w r h m m2 t last wx) => HFx.out 0 (by omega) m2 wx c)
  have F1 := Lib.hid (fun wx (c : CH w r h m m2 t last wx) => HFx.out 1 (by omega) m wx c)
  have G1 := Lib.hid (fun wx (c : CH w r h m m2 t last wx) => HFx.out 1 (by omega) m2 wx c)
  rw [show vrn (bgn h t last) m (min 0 65536) = bgn h t last from rfl, hr0] at F0
  rw [show vrn (bgn h t last) m2 (min 0 65536) = bgn h t last from rfl, hr0] at G0
  rw [show min 1 65536 = 1 from rfl, hra] at F1
  rw [show min 1 65536 = 1 from rfl, hrb] at G1
  have HBA := Lib.hid (show ∀ wx, CH w r h m m2 t last wx → Calls Tryd.prog 36 #[.int .u32 (1 : Nat), .agg (ar .u64 8 h), .agg (ar .u64 16 m), .agg (ar .u64 2 t), .bool last] wx (fun e w' => e = .returned (.agg (ar .u64 8 ra)) ∧ Below wx.heap.size wx w') from fun wx c => (bf_any 1 h m t last (by omega) wx (HP.out.below c.old)).mono fun e w' hh => ⟨by rw [hh.1, ← hra]; rfl, hh.2⟩)
  have HBB := Lib.hid (show ∀ wx, CH w r h m m2 t last wx → Calls Tryd.prog 36 #[.int .u32 (1 : Nat), .agg (ar .u64 8 h), .agg (ar .u64 16 m2), .agg (ar .u64 2 t), .bool last] wx (fun e w' => e = .returned (.agg (ar .u64 8 rb)) ∧ Below wx.heap.size wx w') from fun wx c => (bf_any 1 h m2 t last (by omega) wx (HP.out.below c.old)).mono fun e w' hh => ⟨by rw [hh.1, ← hrb]; rfl, hh.2⟩)
  have HAB := Lib.hid (And.intro hra hrb)
  clear hr0 hra hrb HFx
  refine wp_region_quiet (C := CH w r h m m2 t last) (by kernel_rfl) (by kernel_rfl) (H3.out.below (Below.drew (Below.refl _ _))) ?_
  simp only
  with_reducible refine q_val (.pointer (some ⟨w.heap.size, 1, none⟩)) (by kernel_rfl) (fun _ _ => by kernel_rfl) ?_
  with_reducible refine q_load 54 (.tmp 22) (.pointer (some ⟨w.heap.size, 1, none⟩)) (.agg (ar .u64 8 h)) rfl (by kernel_rfl) (by kernel_rfl) (fun _ c => in_h c.x) ?_
  with_reducible refine q_val (.pointer (some ⟨w.heap.size, 9, none⟩)) (by kernel_rfl) (fun _ _ => by kernel_rfl) ?_
  with_reducible refine q_load 55 (.tmp 24) (.pointer (some ⟨w.heap.size, 9, none⟩)) (.agg (ar .u64 16 m)) rfl (by kernel_rfl) (by kernel_rfl) (fun _ c => in_m c.x) ?_
  with_reducible refine q_val (.pointer (some ⟨w.heap.size, 25, none⟩)) (by kernel_rfl) (fun _ _ => by kernel_rfl) ?_
  with_reducible refine q_load 56 (.tmp 26) (.pointer (some ⟨w.heap.size, 25, none⟩)) (.agg (ar .u64 2 t)) rfl (by kernel_rfl) (by kernel_rfl) (fun _ c => in_t c.x) ?_
  with_reducible refine q_val (.pointer (some ⟨w.heap.size, 27, none⟩)) (by kernel_rfl) (fun _ _ => by kernel_rfl) ?_
  with_reducible refine q_load 4 (.tmp 28) (.pointer (some ⟨w.heap.size, 27, none⟩)) (.bool last) rfl (by kernel_rfl) (by kernel_rfl) (fun _ c => in_l c.x) ?_
  with_reducible refine q_call 36 #[.int .u32 (0 : Nat), .agg (ar .u64 8 h), .agg (ar .u64 16 m), .agg (ar .u64 2 t), .bool last] (.agg (ar .u64 8 r0)) (by kernel_rfl) (fun _ => by kernel_rfl) (F0.out) ?_
  with_reducible refine q_val (.pointer (some ⟨w.heap.size + 1, 1, none⟩)) (by kernel_rfl) (fun _ _ => by kernel_rfl) ?_
  with_reducible refine q_load 54 (.tmp 31) (.pointer (some ⟨w.heap.size + 1, 1, none⟩)) (.agg (ar .u64 8 h)) rfl (by kernel_rfl) (by kernel_rfl) (fun _ c => in_h c.y) ?_
  with_reducible refine q_val (.pointer (some ⟨w.heap.size + 1, 9, none⟩)) (by kernel_rfl) (fun _ _ => by kernel_rfl) ?_
  with_reducible refine q_load 55 (.tmp 33) (.pointer (some ⟨w.heap.size + 1, 9, none⟩)) (.agg (ar .u64 16 m2)) rfl (by kernel_rfl) (by kernel_rfl) (fun _ c => in_m c.y) ?_
  with_reducible refine q_val (.pointer (some ⟨w.heap.size + 1, 25, none⟩)) (by kernel_rfl) (fun _ _ => by kernel_rfl) ?_
  with_reducible refine q_load 56 (.tmp 35) (.pointer (some ⟨w.heap.size + 1, 25, none⟩)) (.agg (ar .u64 2 t)) rfl (by kernel_rfl) (by kernel_rfl) (fun _ c => in_t c.y) ?_
  with_reducible refine q_val (.pointer (some ⟨w.heap.size + 1, 27, none⟩)) (by kernel_rfl) (fun _ _ => by kernel_rfl) ?_
  with_reducible refine q_load 4 (.tmp 37) (.pointer (some ⟨w.heap.size + 1, 27, none⟩)) (.bool last) rfl (by kernel_rfl) (by kernel_rfl) (fun _ c => in_l c.y) ?_
  with_reducible refine q_call 36 #[.int .u32 (0 : Nat), .agg (ar .u64 8 h), .agg (ar .u64 16 m2), .agg (ar .u64 2 t), .bool last] (.agg (ar .u64 8 r0)) (by kernel_rfl) (fun _ => by kernel_rfl) (G0.out) ?_
  with_reducible refine q_bin .neq 54 _ _ 54 (.agg (ar .u64 8 r0)) (.agg (ar .u64 8 r0)) (.bool false) rfl (by kernel_rfl) (by kernel_rfl) (by kernel_rfl) (fun w => neg8 r0 _ _ w) (fun w => neb8 r0 w) ?_
  with_reducible refine wpQuiet_nil ?_
  intro wx hC
  have HC := Lib.hid hC
  clear hC H3 F0 G0
  simp only [Act.put, List.setIfInBounds_toArray, List.set_cons_succ, List.set_cons_zero]
  go_wp2_with fail
  refine region_tie2 (fun s wx => CH w r h m m2 t last wx ∧ AQ 8 9 (w.heap.size + 2) s wx) (fun i s wx => match i with | 0 => s 41 = (.pointer (some ⟨w.heap.size, 1, none⟩)) | 1 => s 42 = (.agg (ar .u64 8 h)) | 2 => s 43 = (.pointer (some ⟨w.heap.size, 9, none⟩)) | 3 => s 44 = (.agg (ar .u64 16 m)) | 4 => s 45 = (.pointer (some ⟨w.heap.size, 25, none⟩)) | 5 => s 46 = (.agg (ar .u64 2 t)) | 6 => s 47 = (.pointer (some ⟨w.heap.size, 27, none⟩)) | 7 => s 48 = (.bool last) | 8 => s 49 = (.agg (ar .u64 8 ra)) | 9 => s 50 = (.pointer (some ⟨w.heap.size + 1, 1, none⟩)) | 10 => s 51 = (.agg (ar .u64 8 h)) | 11 => s 52 = (.pointer (some ⟨w.heap.size + 1, 9, none⟩)) | 12 => s 53 = (.agg (ar .u64 16 m2)) | 13 => s 54 = (.pointer (some ⟨w.heap.size + 1, 25, none⟩)) | 14 => s 55 = (.agg (ar .u64 2 t)) | 15 => s 56 = (.pointer (some ⟨w.heap.size + 1, 27, none⟩)) | 16 => s 57 = (.bool last) | 17 => s 58 = (.agg (ar .u64 8 rb)) | 18 => ∃ D, s 8 = .pointer (some ⟨D, 0, none⟩) ∧ ∃ cs : Array Value, wx.heap[D]? = some (.cells cs 54 (0, 0)) ∧ cs.size = 8 | 19 => ∃ D, s 9 = .pointer (some ⟨D, 0, none⟩) ∧ ∃ cs : Array Value, wx.heap[D]? = some (.cells cs 54 (0, 0)) ∧ cs.size = 8 | 20 => ∃ D, s 8 = .pointer (some ⟨D, 0, none⟩) ∧ wx.heap[D]? = some (.cells (ar .u64 8 ra) 54 (0, 0)) | 21 => ∃ D, s 9 = .pointer (some ⟨D, 0, none⟩) ∧ wx.heap[D]? = some (.cells (ar .u64 8 rb) 54 (0, 0)) | _ => True) (RM2 8 9 (ar .u64 8 ra) (ar .u64 8 rb)) (fun i => match i with | 0 => [41] | 1 => [42] | 2 => [43] | 3 => [44] | 4 => [45] | 5 => [46] | 6 => [47] | 7 => [48] | 8 => [49] | 9 => [50] | 10 => [51] | 11 => [52] | 12 => [53] | 13 => [54] | 14 => [55] | 15 => [56] | 16 => [57] | 17 => [58] | 18 => [8] | 19 => [9] | 20 => [8] | 21 => [9] | _ => []) (fun i => i) (by kernel_rfl) (by kernel_rfl) ⟨HC.out.drew, AQ.start (by kernel_rfl) (by kernel_rfl)⟩ ?_ ?_ ?_ ?_
  · intro i s s' wx he hp
    match i, he, hp with
    | 0, he, hp => exact (he 41 (by simp)).symm.trans hp
    | 1, he, hp => exact (he 42 (by simp)).symm.trans hp
    | 2, he, hp => exact (he 43 (by simp)).symm.trans hp
    | 3, he, hp => exact (he 44 (by simp)).symm.trans hp
    | 4, he, hp => exact (he 45 (by simp)).symm.trans hp
    | 5, he, hp => exact (he 46 (by simp)).symm.trans hp
    | 6, he, hp => exact (he 47 (by simp)).symm.trans hp
    | 7, he, hp => exact (he 48 (by simp)).symm.trans hp
    | 8, he, hp => exact (he 49 (by simp)).symm.trans hp
    | 9, he, hp => exact (he 50 (by simp)).symm.trans hp
    | 10, he, hp => exact (he 51 (by simp)).symm.trans hp
    | 11, he, hp => exact (he 52 (by simp)).symm.trans hp
    | 12, he, hp => exact (he 53 (by simp)).symm.trans hp
    | 13, he, hp => exact (he 54 (by simp)).symm.trans hp
    | 14, he, hp => exact (he 55 (by simp)).symm.trans hp
    | 15, he, hp => exact (he 56 (by simp)).symm.trans hp
    | 16, he, hp => exact (he 57 (by simp)).symm.trans hp
    | 17, he, hp => exact (he 58 (by simp)).symm.trans hp
    | 18, he, hp => obtain ⟨D, h1, h2⟩ := hp; exact ⟨D, (he 8 (by simp)).symm.trans h1, h2⟩
    | 19, he, hp => obtain ⟨D, h1, h2⟩ := hp; exact ⟨D, (he 9 (by simp)).symm.trans h1, h2⟩
    | 20, he, hp => obtain ⟨D, h1, h2⟩ := hp; exact ⟨D, (he 8 (by simp)).symm.trans h1, h2⟩
    | 21, he, hp => obtain ⟨D, h1, h2⟩ := hp; exact ⟨D, (he 9 (by simp)).symm.trans h1, h2⟩
    | _ + 22, _, _ => trivial
  · intro i s wa wb hC hR hp
    match i, hp with
    | 0, hp => exact hp
    | 1, hp => exact hp
    | 2, hp => exact hp
    | 3, hp => exact hp
    | 4, hp => exact hp
    | 5, hp => exact hp
    | 6, hp => exact hp
    | 7, hp => exact hp
    | 8, hp => exact hp
    | 9, hp => exact hp
    | 10, hp => exact hp
    | 11, hp => exact hp
    | 12, hp => exact hp
    | 13, hp => exact hp
    | 14, hp => exact hp
    | 15, hp => exact hp
    | 16, hp => exact hp
    | 17, hp => exact hp
    | 18, hp => obtain ⟨D, h1, h2⟩ := hp; exact ⟨D, h1, hR.shape (ar_size _ _ _) (ar_size _ _ _) h2⟩
    | 19, hp => obtain ⟨D, h1, h2⟩ := hp; exact ⟨D, h1, hR.shape (ar_size _ _ _) (ar_size _ _ _) h2⟩
    | 20, hp => obtain ⟨D, h1, h2⟩ := hp; exact ⟨D, h1, RM2.keepp hC.2 hR h1 h2⟩
    | 21, hp => obtain ⟨D, h1, h2⟩ := hp; exact ⟨D, h1, RM2.keepq hC.2 hR h1 h2⟩
    | _ + 22, _ => trivial
  · refine ⟨?_, ?_, ?_, ?_, ?_, ?_, ?_, ?_, ?_, ?_, ?_, ?_, ?_, ?_, ?_, ?_, ?_, ?_, ?_, ?_, ?_, ?_, trivial⟩
    · intro a wx hC hsz hK
      have h0 : a.tmps.getD 3 undef = (.pointer (some ⟨w.heap.size, 0, none⟩)) := hK.1 3 (by kernel_rfl)
      refine uu_v (Instr.fieldAt 58 (a.tmps.getD 3 undef) 1) ((.pointer (some ⟨w.heap.size, 1, none⟩))) (by kernel_rfl) (by kernel_rfl) ?_ ⟨hC.1, hC.2.put (slots_other _ 41 8 _ (by omega)) (slots_other _ 41 9 _ (by omega)) (Nat.le_refl _)⟩ (slots_put _ _ _ (by rw [hsz]; exact of_decide_eq_true (by kernel_rfl))) (RM2.same _)
      rw [h0]
      exact (by kernel_rfl)
    · intro a wx hC hsz hK
      have h0 : a.tmps.getD 41 undef = (.pointer (some ⟨w.heap.size, 1, none⟩)) := hK.2 ⟨0, .data⟩ (by simp) rfl _ rfl
      exact uu_load 54 (.tmp 41) ((.pointer (some ⟨w.heap.size, 1, none⟩))) ((.agg (ar .u64 8 h))) rfl (by kernel_rfl) h0 (in_h hC.1.x) ⟨hC.1, hC.2.put (slots_other _ 42 8 _ (by omega)) (slots_other _ 42 9 _ (by omega)) (Nat.le_refl _)⟩ (slots_put _ _ _ (by rw [hsz]; exact of_decide_eq_true (by kernel_rfl))) (RM2.same _)
    · intro a wx hC hsz hK
      have h0 : a.tmps.getD 3 undef = (.pointer (some ⟨w.heap.size, 0, none⟩)) := hK.1 3 (by kernel_rfl)
      refine uu_v (Instr.fieldAt 58 (a.tmps.getD 3 undef) 2) ((.pointer (some ⟨w.heap.size, 9, none⟩))) (by kernel_rfl) (by kernel_rfl) ?_ ⟨hC.1, hC.2.put (slots_other _ 43 8 _ (by omega)) (slots_other _ 43 9 _ (by omega)) (Nat.le_refl _)⟩ (slots_put _ _ _ (by rw [hsz]; exact of_decide_eq_true (by kernel_rfl))) (RM2.same _)
      rw [h0]
      exact (by kernel_rfl)
    · intro a wx hC hsz hK
      have h0 : a.tmps.getD 43 undef = (.pointer (some ⟨w.heap.size, 9, none⟩)) := hK.2 ⟨2, .data⟩ (by simp) rfl _ rfl
      exact uu_load 55 (.tmp 43) ((.pointer (some ⟨w.heap.size, 9, none⟩))) ((.agg (ar .u64 16 m))) rfl (by kernel_rfl) h0 (in_m hC.1.x) ⟨hC.1, hC.2.put (slots_other _ 44 8 _ (by omega)) (slots_other _ 44 9 _ (by omega)) (Nat.le_refl _)⟩ (slots_put _ _ _ (by rw [hsz]; exact of_decide_eq_true (by kernel_rfl))) (RM2.same _)
    · intro a wx hC hsz hK
      have h0 : a.tmps.getD 3 undef = (.pointer (some ⟨w.heap.size, 0, none⟩)) := hK.1 3 (by kernel_rfl)
      refine uu_v (Instr.fieldAt 58 (a.tmps.getD 3 undef) 3) ((.pointer (some ⟨w.heap.size, 25, none⟩))) (by kernel_rfl) (by kernel_rfl) ?_ ⟨hC.1, hC.2.put (slots_other _ 45 8 _ (by omega)) (slots_other _ 45 9 _ (by omega)) (Nat.le_refl _)⟩ (slots_put _ _ _ (by rw [hsz]; exact of_decide_eq_true (by kernel_rfl))) (RM2.same _)
      rw [h0]
      exact (by kernel_rfl)
    · intro a wx hC hsz hK
      have h0 : a.tmps.getD 45 undef = (.pointer (some ⟨w.heap.size, 25, none⟩)) := hK.2 ⟨4, .data⟩ (by simp) rfl _ rfl
      exact uu_load 56 (.tmp 45) ((.pointer (some ⟨w.heap.size, 25, none⟩))) ((.agg (ar .u64 2 t))) rfl (by kernel_rfl) h0 (in_t hC.1.x) ⟨hC.1, hC.2.put (slots_other _ 46 8 _ (by omega)) (slots_other _ 46 9 _ (by omega)) (Nat.le_refl _)⟩ (slots_put _ _ _ (by rw [hsz]; exact of_decide_eq_true (by kernel_rfl))) (RM2.same _)
    · intro a wx hC hsz hK
      have h0 : a.tmps.getD 3 undef = (.pointer (some ⟨w.heap.size, 0, none⟩)) := hK.1 3 (by kernel_rfl)
      refine uu_v (Instr.fieldAt 58 (a.tmps.getD 3 undef) 4) ((.pointer (some ⟨w.heap.size, 27, none⟩))) (by kernel_rfl) (by kernel_rfl) ?_ ⟨hC.1, hC.2.put (slots_other _ 47 8 _ (by omega)) (slots_other _ 47 9 _ (by omega)) (Nat.le_refl _)⟩ (slots_put _ _ _ (by rw [hsz]; exact of_decide_eq_true (by kernel_rfl))) (RM2.same _)
      rw [h0]
      exact (by kernel_rfl)
    · intro a wx hC hsz hK
      have h0 : a.tmps.getD 47 undef = (.pointer (some ⟨w.heap.size, 27, none⟩)) := hK.2 ⟨6, .data⟩ (by simp) rfl _ rfl
      exact uu_load 4 (.tmp 47) ((.pointer (some ⟨w.heap.size, 27, none⟩))) ((.bool last)) rfl (by kernel_rfl) h0 (in_l hC.1.x) ⟨hC.1, hC.2.put (slots_other _ 48 8 _ (by omega)) (slots_other _ 48 9 _ (by omega)) (Nat.le_refl _)⟩ (slots_put _ _ _ (by rw [hsz]; exact of_decide_eq_true (by kernel_rfl))) (RM2.same _)
    · intro a wx hC hsz hK
      have h1 : a.tmps.getD 42 undef = (.agg (ar .u64 8 h)) := hK.2 ⟨1, .data⟩ (by simp) rfl _ rfl
      have h2 : a.tmps.getD 44 undef = (.agg (ar .u64 16 m)) := hK.2 ⟨3, .data⟩ (by simp) rfl _ rfl
      have h3 : a.tmps.getD 46 undef = (.agg (ar .u64 2 t)) := hK.2 ⟨5, .data⟩ (by simp) rfl _ rfl
      have h4 : a.tmps.getD 48 undef = (.bool last) := hK.2 ⟨7, .data⟩ (by simp) rfl _ rfl
      refine uu_call 36 #[.int .u32 (1 : Nat), a.tmps.getD 42 undef, a.tmps.getD 44 undef, a.tmps.getD 46 undef, a.tmps.getD 48 undef] (by kernel_rfl) (by kernel_rfl) ?_
      rw [h1, h2, h3, h4]
      exact (HBA.out wx hC.1).mono fun e w' hh => ⟨_, hh.1, ⟨hC.1.below hh.2, hC.2.put (slots_other _ 49 8 _ (by omega)) (slots_other _ 49 9 _ (by omega)) hh.2.size⟩, (slots_put _ _ _ (by rw [hsz]; exact of_decide_eq_true (by kernel_rfl))), RM2.of hh.2⟩
    · intro a wx hC hsz hK
      have h0 : a.tmps.getD 7 undef = (.pointer (some ⟨w.heap.size + 1, 0, none⟩)) := hK.1 7 (by kernel_rfl)
      refine uu_v (Instr.fieldAt 58 (a.tmps.getD 7 undef) 1) ((.pointer (some ⟨w.heap.size + 1, 1, none⟩))) (by kernel_rfl) (by kernel_rfl) ?_ ⟨hC.1, hC.2.put (slots_other _ 50 8 _ (by omega)) (slots_other _ 50 9 _ (by omega)) (Nat.le_refl _)⟩ (slots_put _ _ _ (by rw [hsz]; exact of_decide_eq_true (by kernel_rfl))) (RM2.same _)
      rw [h0]
      exact (by kernel_rfl)
    · intro a wx hC hsz hK
      have h0 : a.tmps.getD 50 undef = (.pointer (some ⟨w.heap.size + 1, 1, none⟩)) := hK.2 ⟨9, .data⟩ (by simp) rfl _ rfl
      exact uu_load 54 (.tmp 50) ((.pointer (some ⟨w.heap.size + 1, 1, none⟩))) ((.agg (ar .u64 8 h))) rfl (by kernel_rfl) h0 (in_h hC.1.y) ⟨hC.1, hC.2.put (slots_other _ 51 8 _ (by omega)) (slots_other _ 51 9 _ (by omega)) (Nat.le_refl _)⟩ (slots_put _ _ _ (by rw [hsz]; exact of_decide_eq_true (by kernel_rfl))) (RM2.same _)
    · intro a wx hC hsz hK
      have h0 : a.tmps.getD 7 undef = (.pointer (some ⟨w.heap.size + 1, 0, none⟩)) := hK.1 7 (by kernel_rfl)
      refine uu_v (Instr.fieldAt 58 (a.tmps.getD 7 undef) 2) ((.pointer (some ⟨w.heap.size + 1, 9, none⟩))) (by kernel_rfl) (by kernel_rfl) ?_ ⟨hC.1, hC.2.put (slots_other _ 52 8 _ (by omega)) (slots_other _ 52 9 _ (by omega)) (Nat.le_refl _)⟩ (slots_put _ _ _ (by rw [hsz]; exact of_decide_eq_true (by kernel_rfl))) (RM2.same _)
      rw [h0]
      exact (by kernel_rfl)
    · intro a wx hC hsz hK
      have h0 : a.tmps.getD 52 undef = (.pointer (some ⟨w.heap.size + 1, 9, none⟩)) := hK.2 ⟨11, .data⟩ (by simp) rfl _ rfl
      exact uu_load 55 (.tmp 52) ((.pointer (some ⟨w.heap.size + 1, 9, none⟩))) ((.agg (ar .u64 16 m2))) rfl (by kernel_rfl) h0 (in_m hC.1.y) ⟨hC.1, hC.2.put (slots_other _ 53 8 _ (by omega)) (slots_other _ 53 9 _ (by omega)) (Nat.le_refl _)⟩ (slots_put _ _ _ (by rw [hsz]; exact of_decide_eq_true (by kernel_rfl))) (RM2.same _)
    · intro a wx hC hsz hK
      have h0 : a.tmps.getD 7 undef = (.pointer (some ⟨w.heap.size + 1, 0, none⟩)) := hK.1 7 (by kernel_rfl)
      refine uu_v (Instr.fieldAt 58 (a.tmps.getD 7 undef) 3) ((.pointer (some ⟨w.heap.size + 1, 25, none⟩))) (by kernel_rfl) (by kernel_rfl) ?_ ⟨hC.1, hC.2.put (slots_other _ 54 8 _ (by omega)) (slots_other _ 54 9 _ (by omega)) (Nat.le_refl _)⟩ (slots_put _ _ _ (by rw [hsz]; exact of_decide_eq_true (by kernel_rfl))) (RM2.same _)
      rw [h0]
      exact (by kernel_rfl)
    · intro a wx hC hsz hK
      have h0 : a.tmps.getD 54 undef = (.pointer (some ⟨w.heap.size + 1, 25, none⟩)) := hK.2 ⟨13, .data⟩ (by simp) rfl _ rfl
      exact uu_load 56 (.tmp 54) ((.pointer (some ⟨w.heap.size + 1, 25, none⟩))) ((.agg (ar .u64 2 t))) rfl (by kernel_rfl) h0 (in_t hC.1.y) ⟨hC.1, hC.2.put (slots_other _ 55 8 _ (by omega)) (slots_other _ 55 9 _ (by omega)) (Nat.le_refl _)⟩ (slots_put _ _ _ (by rw [hsz]; exact of_decide_eq_true (by kernel_rfl))) (RM2.same _)
    · intro a wx hC hsz hK
      have h0 : a.tmps.getD 7 undef = (.pointer (some ⟨w.heap.size + 1, 0, none⟩)) := hK.1 7 (by kernel_rfl)
      refine uu_v (Instr.fieldAt 58 (a.tmps.getD 7 undef) 4) ((.pointer (some ⟨w.heap.size + 1, 27, none⟩))) (by kernel_rfl) (by kernel_rfl) ?_ ⟨hC.1, hC.2.put (slots_other _ 56 8 _ (by omega)) (slots_other _ 56 9 _ (by omega)) (Nat.le_refl _)⟩ (slots_put _ _ _ (by rw [hsz]; exact of_decide_eq_true (by kernel_rfl))) (RM2.same _)
      rw [h0]
      exact (by kernel_rfl)
    · intro a wx hC hsz hK
      have h0 : a.tmps.getD 56 undef = (.pointer (some ⟨w.heap.size + 1, 27, none⟩)) := hK.2 ⟨15, .data⟩ (by simp) rfl _ rfl
      exact uu_load 4 (.tmp 56) ((.pointer (some ⟨w.heap.size + 1, 27, none⟩))) ((.bool last)) rfl (by kernel_rfl) h0 (in_l hC.1.y) ⟨hC.1, hC.2.put (slots_other _ 57 8 _ (by omega)) (slots_other _ 57 9 _ (by omega)) (Nat.le_refl _)⟩ (slots_put _ _ _ (by rw [hsz]; exact of_decide_eq_true (by kernel_rfl))) (RM2.same _)
    · intro a wx hC hsz hK
      have h1 : a.tmps.getD 51 undef = (.agg (ar .u64 8 h)) := hK.2 ⟨10, .data⟩ (by simp) rfl _ rfl
      have h2 : a.tmps.getD 53 undef = (.agg (ar .u64 16 m2)) := hK.2 ⟨12, .data⟩ (by simp) rfl _ rfl
      have h3 : a.tmps.getD 55 undef = (.agg (ar .u64 2 t)) := hK.2 ⟨14, .data⟩ (by simp) rfl _ rfl
      have h4 : a.tmps.getD 57 undef = (.bool last) := hK.2 ⟨16, .data⟩ (by simp) rfl _ rfl
      refine uu_call 36 #[.int .u32 (1 : Nat), a.tmps.getD 51 undef, a.tmps.getD 53 undef, a.tmps.getD 55 undef, a.tmps.getD 57 undef] (by kernel_rfl) (by kernel_rfl) ?_
      rw [h1, h2, h3, h4]
      exact (HBB.out wx hC.1).mono fun e w' hh => ⟨_, hh.1, ⟨hC.1.below hh.2, hC.2.put (slots_other _ 58 8 _ (by omega)) (slots_other _ 58 9 _ (by omega)) hh.2.size⟩, (slots_put _ _ _ (by rw [hsz]; exact of_decide_eq_true (by kernel_rfl))), RM2.of hh.2⟩
    · intro a wx hC hsz hK
      have hb : Below wx.heap.size wx (wx.alloc (.cells #[.int .u64 0, .int .u64 0, .int .u64 0, .int .u64 0, .int .u64 0, .int .u64 0, .int .u64 0, .int .u64 0] 54)) := (Below.refl _ _).alloc (Nat.le_refl _) _
      exact uu_new (.pointer (some ⟨wx.heap.size, 0, none⟩)) (by kernel_rfl) (by kernel_rfl) ⟨hC.1.below hb, hC.2.newp (slots_put _ _ _ (by rw [hsz]; exact of_decide_eq_true (by kernel_rfl))) (slots_other _ 8 9 _ (by omega)) hC.1.high (by simp)⟩ ⟨_, (slots_put _ _ _ (by rw [hsz]; exact of_decide_eq_true (by kernel_rfl))), #[.int .u64 0, .int .u64 0, .int .u64 0, .int .u64 0, .int .u64 0, .int .u64 0, .int .u64 0, .int .u64 0], heap_alloc_new _ _, rfl⟩ (RM2.of hb)
    · intro a wx hC hsz hK
      have hb : Below wx.heap.size wx (wx.alloc (.cells #[.int .u64 0, .int .u64 0, .int .u64 0, .int .u64 0, .int .u64 0, .int .u64 0, .int .u64 0, .int .u64 0] 54)) := (Below.refl _ _).alloc (Nat.le_refl _) _
      exact uu_new (.pointer (some ⟨wx.heap.size, 0, none⟩)) (by kernel_rfl) (by kernel_rfl) ⟨hC.1.below hb, hC.2.newq (slots_put _ _ _ (by rw [hsz]; exact of_decide_eq_true (by kernel_rfl))) (slots_other _ 9 8 _ (by omega)) hC.1.high (by simp)⟩ ⟨_, (slots_put _ _ _ (by rw [hsz]; exact of_decide_eq_true (by kernel_rfl))), #[.int .u64 0, .int .u64 0, .int .u64 0, .int .u64 0, .int .u64 0, .int .u64 0, .int .u64 0, .int .u64 0], heap_alloc_new _ _, rfl⟩ (RM2.of hb)
    · intro a wx hC hsz hK
      obtain ⟨D, h1, cs, h3, h4⟩ := hK.2 ⟨18, .data⟩ (by simp) rfl _ rfl
      have h0 : a.tmps.getD 49 undef = (.agg (ar .u64 8 ra)) := hK.2 ⟨8, .data⟩ (by simp) rfl _ rfl
      exact uu_store (by kernel_rfl) rfl (run_st 54 (.tmp 8) (.tmp 49) _ _ rfl h1 h0 (store_8r h4 h3)) ⟨hC.1.rowed (hC.2.ap D h1).1, hC.2.put rfl rfl (by simp)⟩ ⟨D, h1, setRow_heap _ _ _ _ _ _ h3⟩ (.inr ⟨D, ar .u64 8 ra, .inl ⟨h1, rfl⟩, rfl⟩)
    · intro a wx hC hsz hK
      obtain ⟨D, h1, cs, h3, h4⟩ := hK.2 ⟨19, .data⟩ (by simp) rfl _ rfl
      have h0 : a.tmps.getD 58 undef = (.agg (ar .u64 8 rb)) := hK.2 ⟨17, .data⟩ (by simp) rfl _ rfl
      exact uu_store (by kernel_rfl) rfl (run_st 54 (.tmp 9) (.tmp 58) _ _ rfl h1 h0 (store_8r h4 h3)) ⟨hC.1.rowed (hC.2.aq D h1).1, hC.2.put rfl rfl (by simp)⟩ ⟨D, h1, setRow_heap _ _ _ _ _ _ h3⟩ (.inr ⟨D, ar .u64 8 rb, .inr ⟨h1, rfl⟩, rfl⟩)
  intro f1 w5 hC hf
  obtain ⟨D, s8, rp⟩ := hf 20 _ rfl
  obtain ⟨E, s9, rq⟩ := hf 21 _ rfl
  have H6 := Lib.hid (show CK w D E r h m m2 t last ra rb w5 from ⟨hC.1, rp, rq⟩)
  clear hf hC rp rq HC F1 G1
  generalize hAct : putAll _ _ _ = G at *
  have s2 : G.tmps.getD 2 undef = .int .u64 by_ := by subst hAct; kernel_rfl
  have s3 : G.tmps.getD 3 undef = .pointer (some ⟨w.heap.size, 0, none⟩) := by subst hAct; kernel_rfl
  have s7 : G.tmps.getD 7 undef = .pointer (some ⟨w.heap.size + 1, 0, none⟩) := by subst hAct; kernel_rfl
  have s8' : G.tmps.getD 8 undef = .pointer (some ⟨D, 0, none⟩) := s8
  have s9' : G.tmps.getD 9 undef = .pointer (some ⟨E, 0, none⟩) := s9
  have hsz : G.tmps.size = 95 := by rw [← hAct, putAll_size]; rfl
  have hdf : G.defers = [] := by subst hAct; kernel_rfl
  clear hAct s8 s9
  obtain ⟨u0, t0⟩ : ∃ u, G.tmps.getD 0 undef = u := ⟨_, rfl⟩
  obtain ⟨u1, t1⟩ : ∃ u, G.tmps.getD 1 undef = u := ⟨_, rfl⟩
  obtain ⟨u4, t4⟩ : ∃ u, G.tmps.getD 4 undef = u := ⟨_, rfl⟩
  obtain ⟨u5, t5⟩ : ∃ u, G.tmps.getD 5 undef = u := ⟨_, rfl⟩
  obtain ⟨u6, t6⟩ : ∃ u, G.tmps.getD 6 undef = u := ⟨_, rfl⟩
  obtain ⟨u10, t10⟩ : ∃ u, G.tmps.getD 10 undef = u := ⟨_, rfl⟩
  obtain ⟨u11, t11⟩ : ∃ u, G.tmps.getD 11 undef = u := ⟨_, rfl⟩
  obtain ⟨u12, t12⟩ : ∃ u, G.tmps.getD 12 undef = u := ⟨_, rfl⟩
  obtain ⟨u13, t13⟩ : ∃ u, G.tmps.getD 13 undef = u := ⟨_, rfl⟩
  obtain ⟨u14, t14⟩ : ∃ u, G.tmps.getD 14 undef = u := ⟨_, rfl⟩
  obtain ⟨u15, t15⟩ : ∃ u, G.tmps.getD 15 undef = u := ⟨_, rfl⟩
  obtain ⟨u16, t16⟩ : ∃ u, G.tmps.getD 16 undef = u := ⟨_, rfl⟩
  obtain ⟨u17, t17⟩ : ∃ u, G.tmps.getD 17 undef = u := ⟨_, rfl⟩
  obtain ⟨u18, t18⟩ : ∃ u, G.tmps.getD 18 undef = u := ⟨_, rfl⟩
  obtain ⟨u19, t19⟩ : ∃ u, G.tmps.getD 19 undef = u := ⟨_, rfl⟩
  obtain ⟨u20, t20⟩ : ∃ u, G.tmps.getD 20 undef = u := ⟨_, rfl⟩
  obtain ⟨u21, t21⟩ : ∃ u, G.tmps.getD 21 undef = u := ⟨_, rfl⟩
  obtain ⟨u22, t22⟩ : ∃ u, G.tmps.getD 22 undef = u := ⟨_, rfl⟩
  obtain ⟨u23, t23⟩ : ∃ u, G.tmps.getD 23 undef = u := ⟨_, rfl⟩
  obtain ⟨u24, t24⟩ : ∃ u, G.tmps.getD 24 undef = u := ⟨_, rfl⟩
  obtain ⟨u25, t25⟩ : ∃ u, G.tmps.getD 25 undef = u := ⟨_, rfl⟩
  obtain ⟨u26, t26⟩ : ∃ u, G.tmps.getD 26 undef = u := ⟨_, rfl⟩
  obtain ⟨u27, t27⟩ : ∃ u, G.tmps.getD 27 undef = u := ⟨_, rfl⟩
  obtain ⟨u28, t28⟩ : ∃ u, G.tmps.getD 28 undef = u := ⟨_, rfl⟩
  obtain ⟨u29, t29⟩ : ∃ u, G.tmps.getD 29 undef = u := ⟨_, rfl⟩
  obtain ⟨u30, t30⟩ : ∃ u, G.tmps.getD 30 undef = u := ⟨_, rfl⟩
  obtain ⟨u31, t31⟩ : ∃ u, G.tmps.getD 31 undef = u := ⟨_, rfl⟩
  obtain ⟨u32, t32⟩ : ∃ u, G.tmps.getD 32 undef = u := ⟨_, rfl⟩
  obtain ⟨u33, t33⟩ : ∃ u, G.tmps.getD 33 undef = u := ⟨_, rfl⟩
  obtain ⟨u34, t34⟩ : ∃ u, G.tmps.getD 34 undef = u := ⟨_, rfl⟩
  obtain ⟨u35, t35⟩ : ∃ u, G.tmps.getD 35 undef = u := ⟨_, rfl⟩
  obtain ⟨u36, t36⟩ : ∃ u, G.tmps.getD 36 undef = u := ⟨_, rfl⟩
  obtain ⟨u37, t37⟩ : ∃ u, G.tmps.getD 37 undef = u := ⟨_, rfl⟩
  obtain ⟨u38, t38⟩ : ∃ u, G.tmps.getD 38 undef = u := ⟨_, rfl⟩
  obtain ⟨u39, t39⟩ : ∃ u, G.tmps.getD 39 undef = u := ⟨_, rfl⟩
  obtain ⟨u40, t40⟩ : ∃ u, G.tmps.getD 40 undef = u := ⟨_, rfl⟩
  obtain ⟨u41, t41⟩ : ∃ u, G.tmps.getD 41 undef = u := ⟨_, rfl⟩
  obtain ⟨u42, t42⟩ : ∃ u, G.tmps.getD 42 undef = u := ⟨_, rfl⟩
  obtain ⟨u43, t43⟩ : ∃ u, G.tmps.getD 43 undef = u := ⟨_, rfl⟩
  obtain ⟨u44, t44⟩ : ∃ u, G.tmps.getD 44 undef = u := ⟨_, rfl⟩
  obtain ⟨u45, t45⟩ : ∃ u, G.tmps.getD 45 undef = u := ⟨_, rfl⟩
  obtain ⟨u46, t46⟩ : ∃ u, G.tmps.getD 46 undef = u := ⟨_, rfl⟩
  obtain ⟨u47, t47⟩ : ∃ u, G.tmps.getD 47 undef = u := ⟨_, rfl⟩
  obtain ⟨u48, t48⟩ : ∃ u, G.tmps.getD 48 undef = u := ⟨_, rfl⟩
  obtain ⟨u49, t49⟩ : ∃ u, G.tmps.getD 49 undef = u := ⟨_, rfl⟩
  obtain ⟨u50, t50⟩ : ∃ u, G.tmps.getD 50 undef = u := ⟨_, rfl⟩
  obtain ⟨u51, t51⟩ : ∃ u, G.tmps.getD 51 undef = u := ⟨_, rfl⟩
  obtain ⟨u52, t52⟩ : ∃ u, G.tmps.getD 52 undef = u := ⟨_, rfl⟩
  obtain ⟨u53, t53⟩ : ∃ u, G.tmps.getD 53 undef = u := ⟨_, rfl⟩
  obtain ⟨u54, t54⟩ : ∃ u, G.tmps.getD 54 undef = u := ⟨_, rfl⟩
  obtain ⟨u55, t55⟩ : ∃ u, G.tmps.getD 55 undef = u := ⟨_, rfl⟩
  obtain ⟨u56, t56⟩ : ∃ u, G.tmps.getD 56 undef = u := ⟨_, rfl⟩
  obtain ⟨u57, t57⟩ : ∃ u, G.tmps.getD 57 undef = u := ⟨_, rfl⟩
  obtain ⟨u58, t58⟩ : ∃ u, G.tmps.getD 58 undef = u := ⟨_, rfl⟩
  obtain ⟨u59, t59⟩ : ∃ u, G.tmps.getD 59 undef = u := ⟨_, rfl⟩
  obtain ⟨u60, t60⟩ : ∃ u, G.tmps.getD 60 undef = u := ⟨_, rfl⟩
  obtain ⟨u61, t61⟩ : ∃ u, G.tmps.getD 61 undef = u := ⟨_, rfl⟩
  obtain ⟨u62, t62⟩ : ∃ u, G.tmps.getD 62 undef = u := ⟨_, rfl⟩
  obtain ⟨u63, t63⟩ : ∃ u, G.tmps.getD 63 undef = u := ⟨_, rfl⟩
  obtain ⟨u64, t64⟩ : ∃ u, G.tmps.getD 64 undef = u := ⟨_, rfl⟩
  obtain ⟨u65, t65⟩ : ∃ u, G.tmps.getD 65 undef = u := ⟨_, rfl⟩
  obtain ⟨u66, t66⟩ : ∃ u, G.tmps.getD 66 undef = u := ⟨_, rfl⟩
  obtain ⟨u67, t67⟩ : ∃ u, G.tmps.getD 67 undef = u := ⟨_, rfl⟩
  obtain ⟨u68, t68⟩ : ∃ u, G.tmps.getD 68 undef = u := ⟨_, rfl⟩
  obtain ⟨u69, t69⟩ : ∃ u, G.tmps.getD 69 undef = u := ⟨_, rfl⟩
  obtain ⟨u70, t70⟩ : ∃ u, G.tmps.getD 70 undef = u := ⟨_, rfl⟩
  obtain ⟨u71, t71⟩ : ∃ u, G.tmps.getD 71 undef = u := ⟨_, rfl⟩
  obtain ⟨u72, t72⟩ : ∃ u, G.tmps.getD 72 undef = u := ⟨_, rfl⟩
  obtain ⟨u73, t73⟩ : ∃ u, G.tmps.getD 73 undef = u := ⟨_, rfl⟩
  obtain ⟨u74, t74⟩ : ∃ u, G.tmps.getD 74 undef = u := ⟨_, rfl⟩
  obtain ⟨u75, t75⟩ : ∃ u, G.tmps.getD 75 undef = u := ⟨_, rfl⟩
  obtain ⟨u76, t76⟩ : ∃ u, G.tmps.getD 76 undef = u := ⟨_, rfl⟩
  obtain ⟨u77, t77⟩ : ∃ u, G.tmps.getD 77 undef = u := ⟨_, rfl⟩
  obtain ⟨u78, t78⟩ : ∃ u, G.tmps.getD 78 undef = u := ⟨_, rfl⟩
  obtain ⟨u79, t79⟩ : ∃ u, G.tmps.getD 79 undef = u := ⟨_, rfl⟩
  obtain ⟨u80, t80⟩ : ∃ u, G.tmps.getD 80 undef = u := ⟨_, rfl⟩
  obtain ⟨u81, t81⟩ : ∃ u, G.tmps.getD 81 undef = u := ⟨_, rfl⟩
  obtain ⟨u82, t82⟩ : ∃ u, G.tmps.getD 82 undef = u := ⟨_, rfl⟩
  obtain ⟨u83, t83⟩ : ∃ u, G.tmps.getD 83 undef = u := ⟨_, rfl⟩
  obtain ⟨u84, t84⟩ : ∃ u, G.tmps.getD 84 undef = u := ⟨_, rfl⟩
  obtain ⟨u85, t85⟩ : ∃ u, G.tmps.getD 85 undef = u := ⟨_, rfl⟩
  obtain ⟨u86, t86⟩ : ∃ u, G.tmps.getD 86 undef = u := ⟨_, rfl⟩
  obtain ⟨u87, t87⟩ : ∃ u, G.tmps.getD 87 undef = u := ⟨_, rfl⟩
  obtain ⟨u88, t88⟩ : ∃ u, G.tmps.getD 88 undef = u := ⟨_, rfl⟩
  obtain ⟨u89, t89⟩ : ∃ u, G.tmps.getD 89 undef = u := ⟨_, rfl⟩
  obtain ⟨u90, t90⟩ : ∃ u, G.tmps.getD 90 undef = u := ⟨_, rfl⟩
  obtain ⟨u91, t91⟩ : ∃ u, G.tmps.getD 91 undef = u := ⟨_, rfl⟩
  obtain ⟨u92, t92⟩ : ∃ u, G.tmps.getD 92 undef = u := ⟨_, rfl⟩
  obtain ⟨u93, t93⟩ : ∃ u, G.tmps.getD 93 undef = u := ⟨_, rfl⟩
  obtain ⟨u94, t94⟩ : ∃ u, G.tmps.getD 94 undef = u := ⟨_, rfl⟩
  obtain ⟨tm, df⟩ := G
  simp only at *
  have hLt := arr_lit2 tm
  rw [hsz] at hLt
  simp only [List.range, List.range.loop, List.map] at hLt
  rw [t0, t1, s2, s3, t4, t5, t6, s7, s8', s9', t10, t11, t12, t13, t14, t15, t16, t17, t18, t19, t20, t21, t22, t23, t24, t25, t26, t27, t28, t29, t30, t31, t32, t33, t34, t35, t36, t37, t38, t39, t40, t41, t42, t43, t44, t45, t46, t47, t48, t49, t50, t51, t52, t53, t54, t55, t56, t57, t58, t59, t60, t61, t62, t63, t64, t65, t66, t67, t68, t69, t70, t71, t72, t73, t74, t75, t76, t77, t78, t79, t80, t81, t82, t83, t84, t85, t86, t87, t88, t89, t90, t91, t92, t93, t94] at hLt
  subst hLt hdf
  clear t0 t1 s2 s3 t4 t5 t6 s7 s8' s9' t10 t11 t12 t13 t14 t15 t16 t17 t18 t19 t20 t21 t22 t23 t24 t25 t26 t27 t28 t29 t30 t31 t32 t33 t34 t35 t36 t37 t38 t39 t40 t41 t42 t43 t44 t45 t46 t47 t48 t49 t50 t51 t52 t53 t54 t55 t56 t57 t58 t59 t60 t61 t62 t63 t64 t65 t66 t67 t68 t69 t70 t71 t72 t73 t74 t75 t76 t77 t78 t79 t80 t81 t82 t83 t84 t85 t86 t87 t88 t89 t90 t91 t92 t93 t94 hsz
  go_wp2_with fail
  have RF := Lib.hid (show ∀ wx, CK w D E r h m m2 t last ra rb wx → Calls Tryd.prog 37 #[.int .u32 (1 : Nat), .agg (ar .u64 8 h), .agg (ar .u64 16 m), .agg (ar .u64 2 t), .bool last] wx (fun e w' => e = .returned (.agg (ar .u64 8 ra)) ∧ CK w D E r h m m2 t last ra rb w') from fun wx c => (brf_any 1 h m t last (by omega) wx).mono fun e w' hh => ⟨by rw [hh.1, ← HAB.out.1]; rfl, c.below hh.2⟩)
  have RG := Lib.hid (show ∀ wx, CK w D E r h m m2 t last ra rb wx → Calls Tryd.prog 37 #[.int .u32 (1 : Nat), .agg (ar .u64 8 h), .agg (ar .u64 16 m2), .agg (ar .u64 2 t), .bool last] wx (fun e w' => e = .returned (.agg (ar .u64 8 rb)) ∧ CK w D E r h m m2 t last ra rb w') from fun wx c => (brf_any 1 h m2 t last (by omega) wx).mono fun e w' hh => ⟨by rw [hh.1, ← HAB.out.2]; rfl, c.below hh.2⟩)
  have HL := Lib.hid (show ∀ wx, CK w D E r h m m2 t last ra rb wx → Calls Tryd.prog 38 #[] wx (fun e w' => e = .returned (.bool true) ∧ CK w D E r h m m2 t last ra rb w') from fun wx c => (blives_any wx (HP.out.below c.c.old)).mono fun e w' hh => ⟨hh.1, c.below hh.2⟩)
  by_cases hz : by_ = 0
  · have e2 : m2 = m ∨ True := .inr trivial
    have hab : ra = rb := by
      have hmm : ∀ i, m2 i = m i := fun i => by
        rw [← HM2.out]
        unfold updI
        by_cases e : i = p
        · rw [if_pos e, ← HY.out, hz, e]
          exact xor_none _ (HM.out p HPP.out).1 (HM.out p HPP.out).2
        · rw [if_neg e]
      rw [← HAB.out.1, ← HAB.out.2, show m2 = m from funext hmm]
    subst hab
    have hz' : (by_ : Int) = 0 := by omega
    have hn0 : ∀ w, (binOp BinOp.neq 34 (.int .u64 by_) (.int .u64 0)).run Tryd.prog w = .ok (.bool false) w := fun w => by
      rw [hz']; kernel_rfl
    have HN0 := Lib.hid hn0
    clear hn0 hz hz' e2 HAB HM HY HM2
    refine wp_region_quiet (C := CK w D E r h m m2 t last ra ra) (by kernel_rfl) (by kernel_rfl) (H6.out.below (Below.drew (Below.refl _ _))) ?_
    simp only
    with_reducible refine q_val (.int .u64 by_) (by kernel_rfl) (fun _ _ => by kernel_rfl) ?_
    with_reducible refine q_bin .neq 34 _ _ 34 (.int .u64 by_) (.int .u64 0) (.bool false) rfl (by kernel_rfl) (by kernel_rfl) (by kernel_rfl) (fun _ => by kernel_rfl) HN0.out ?_
    with_reducible refine q_val (.bool false) (by kernel_rfl) (fun _ _ => by kernel_rfl) ?_
    with_reducible refine q_load 54 (.tmp 8) (.pointer (some ⟨D, 0, none⟩)) (.agg (ar .u64 8 ra)) rfl (by kernel_rfl) (by kernel_rfl) (fun _ c => load_8r c.a) ?_
    with_reducible refine q_load 54 (.tmp 9) (.pointer (some ⟨E, 0, none⟩)) (.agg (ar .u64 8 ra)) rfl (by kernel_rfl) (by kernel_rfl) (fun _ c => load_8r c.b) ?_
    with_reducible refine q_bin .eql 54 _ _ 54 (.agg (ar .u64 8 ra)) (.agg (ar .u64 8 ra)) (.bool true) rfl (by kernel_rfl) (by kernel_rfl) (by kernel_rfl) (fun w => eqg8 ra _ _ w) (fun w => eqb8 ra w) ?_
    with_reducible refine q_val (.bool true) (by kernel_rfl) (fun _ _ => by kernel_rfl) ?_
    with_reducible refine q_val (.bool true) (by kernel_rfl) (fun _ _ => by kernel_rfl) ?_
    with_reducible refine q_load 54 (.tmp 8) (.pointer (some ⟨D, 0, none⟩)) (.agg (ar .u64 8 ra)) rfl (by kernel_rfl) (by kernel_rfl) (fun _ c => load_8r c.a) ?_
    with_reducible refine q_val (.pointer (some ⟨w.heap.size, 1, none⟩)) (by kernel_rfl) (fun _ _ => by kernel_rfl) ?_
    with_reducible refine q_load 54 (.tmp 68) (.pointer (some ⟨w.heap.size, 1, none⟩)) (.agg (ar .u64 8 h)) rfl (by kernel_rfl) (by kernel_rfl) (fun _ c => in_h c.c.x) ?_
    with_reducible refine q_val (.pointer (some ⟨w.heap.size, 9, none⟩)) (by kernel_rfl) (fun _ _ => by kernel_rfl) ?_
    with_reducible refine q_load 55 (.tmp 70) (.pointer (some ⟨w.heap.size, 9, none⟩)) (.agg (ar .u64 16 m)) rfl (by kernel_rfl) (by kernel_rfl) (fun _ c => in_m c.c.x) ?_
    with_reducible refine q_val (.pointer (some ⟨w.heap.size, 25, none⟩)) (by kernel_rfl) (fun _ _ => by kernel_rfl) ?_
    with_reducible refine q_load 56 (.tmp 72) (.pointer (some ⟨w.heap.size, 25, none⟩)) (.agg (ar .u64 2 t)) rfl (by kernel_rfl) (by kernel_rfl) (fun _ c => in_t c.c.x) ?_
    with_reducible refine q_val (.pointer (some ⟨w.heap.size, 27, none⟩)) (by kernel_rfl) (fun _ _ => by kernel_rfl) ?_
    with_reducible refine q_load 4 (.tmp 74) (.pointer (some ⟨w.heap.size, 27, none⟩)) (.bool last) rfl (by kernel_rfl) (by kernel_rfl) (fun _ c => in_l c.c.x) ?_
    with_reducible refine q_call 37 #[.int .u32 (1 : Nat), .agg (ar .u64 8 h), .agg (ar .u64 16 m), .agg (ar .u64 2 t), .bool last] (.agg (ar .u64 8 ra)) (by kernel_rfl) (fun _ => by kernel_rfl) (RF.out) ?_
    with_reducible refine q_bin .eql 54 _ _ 54 (.agg (ar .u64 8 ra)) (.agg (ar .u64 8 ra)) (.bool true) rfl (by kernel_rfl) (by kernel_rfl) (by kernel_rfl) (fun w => eqg8 ra _ _ w) (fun w => eqb8 ra w) ?_
    with_reducible refine q_val (.bool true) (by kernel_rfl) (fun _ _ => by kernel_rfl) ?_
    with_reducible refine q_val (.bool true) (by kernel_rfl) (fun _ _ => by kernel_rfl) ?_
    with_reducible refine q_load 54 (.tmp 9) (.pointer (some ⟨E, 0, none⟩)) (.agg (ar .u64 8 ra)) rfl (by kernel_rfl) (by kernel_rfl) (fun _ c => load_8r c.b) ?_
    with_reducible refine q_val (.pointer (some ⟨w.heap.size + 1, 1, none⟩)) (by kernel_rfl) (fun _ _ => by kernel_rfl) ?_
    with_reducible refine q_load 54 (.tmp 81) (.pointer (some ⟨w.heap.size + 1, 1, none⟩)) (.agg (ar .u64 8 h)) rfl (by kernel_rfl) (by kernel_rfl) (fun _ c => in_h c.c.y) ?_
    with_reducible refine q_val (.pointer (some ⟨w.heap.size + 1, 9, none⟩)) (by kernel_rfl) (fun _ _ => by kernel_rfl) ?_
    with_reducible refine q_load 55 (.tmp 83) (.pointer (some ⟨w.heap.size + 1, 9, none⟩)) (.agg (ar .u64 16 m2)) rfl (by kernel_rfl) (by kernel_rfl) (fun _ c => in_m c.c.y) ?_
    with_reducible refine q_val (.pointer (some ⟨w.heap.size + 1, 25, none⟩)) (by kernel_rfl) (fun _ _ => by kernel_rfl) ?_
    with_reducible refine q_load 56 (.tmp 85) (.pointer (some ⟨w.heap.size + 1, 25, none⟩)) (.agg (ar .u64 2 t)) rfl (by kernel_rfl) (by kernel_rfl) (fun _ c => in_t c.c.y) ?_
    with_reducible refine q_val (.pointer (some ⟨w.heap.size + 1, 27, none⟩)) (by kernel_rfl) (fun _ _ => by kernel_rfl) ?_
    with_reducible refine q_load 4 (.tmp 87) (.pointer (some ⟨w.heap.size + 1, 27, none⟩)) (.bool last) rfl (by kernel_rfl) (by kernel_rfl) (fun _ c => in_l c.c.y) ?_
    with_reducible refine q_call 37 #[.int .u32 (1 : Nat), .agg (ar .u64 8 h), .agg (ar .u64 16 m2), .agg (ar .u64 2 t), .bool last] (.agg (ar .u64 8 ra)) (by kernel_rfl) (fun _ => by kernel_rfl) (RG.out) ?_
    with_reducible refine q_bin .eql 54 _ _ 54 (.agg (ar .u64 8 ra)) (.agg (ar .u64 8 ra)) (.bool true) rfl (by kernel_rfl) (by kernel_rfl) (by kernel_rfl) (fun w => eqg8 ra _ _ w) (fun w => eqb8 ra w) ?_
    with_reducible refine q_val (.bool true) (by kernel_rfl) (fun _ _ => by kernel_rfl) ?_
    with_reducible refine q_val (.bool true) (by kernel_rfl) (fun _ _ => by kernel_rfl) ?_
    with_reducible refine q_call 38 #[] (.bool true) (by kernel_rfl) (fun _ => by kernel_rfl) (HL.out) ?_
    with_reducible refine q_val (.bool true) (by kernel_rfl) (fun _ _ => by kernel_rfl) ?_
    with_reducible refine q_val (.bool true) (by kernel_rfl) (fun _ _ => by kernel_rfl) ?_
    with_reducible refine wpQuiet_nil ?_
    intro wx hC
    have HCx := Lib.hid hC
    clear hC
    simp only [Act.put, List.setIfInBounds_toArray, List.set_cons_succ, List.set_cons_zero]
    go_wp2_with fail
    go_ret
    exact ⟨rfl, HCx.out.c.old⟩
  · have hz' : (by_ : Int) ≠ 0 := by omega
    have hn0 : ∀ w, (binOp BinOp.neq 34 (.int .u64 by_) (.int .u64 0)).run Tryd.prog w = .ok (.bool true) w := fun w => by
      have e : ((by_ : Int) == 0) = false := by simpa using hz'
      go_simp
    have HN0 := Lib.hid hn0
    clear hn0 hz hz' HAB HM HY HM2
    refine wp_region_quiet (C := CK w D E r h m m2 t last ra rb) (by kernel_rfl) (by kernel_rfl) (H6.out.below (Below.drew (Below.refl _ _))) ?_
    simp only
    with_reducible refine q_val (.int .u64 by_) (by kernel_rfl) (fun _ _ => by kernel_rfl) ?_
    with_reducible refine q_bin .neq 34 _ _ 34 (.int .u64 by_) (.int .u64 0) (.bool true) rfl (by kernel_rfl) (by kernel_rfl) (by kernel_rfl) (fun _ => by kernel_rfl) HN0.out ?_
    with_reducible refine q_val (.bool true) (by kernel_rfl) (fun _ _ => by kernel_rfl) ?_
    with_reducible refine q_skip (by kernel_rfl) ?_
    with_reducible refine q_skip (by kernel_rfl) ?_
    with_reducible refine q_skip (by kernel_rfl) ?_
    with_reducible refine q_val (.bool true) (by kernel_rfl) (fun _ _ => by kernel_rfl) ?_
    with_reducible refine q_val (.bool true) (by kernel_rfl) (fun _ _ => by kernel_rfl) ?_
    with_reducible refine q_load 54 (.tmp 8) (.pointer (some ⟨D, 0, none⟩)) (.agg (ar .u64 8 ra)) rfl (by kernel_rfl) (by kernel_rfl) (fun _ c => load_8r c.a) ?_
    with_reducible refine q_val (.pointer (some ⟨w.heap.size, 1, none⟩)) (by kernel_rfl) (fun _ _ => by kernel_rfl) ?_
    with_reducible refine q_load 54 (.tmp 68) (.pointer (some ⟨w.heap.size, 1, none⟩)) (.agg (ar .u64 8 h)) rfl (by kernel_rfl) (by kernel_rfl) (fun _ c => in_h c.c.x) ?_
    with_reducible refine q_val (.pointer (some ⟨w.heap.size, 9, none⟩)) (by kernel_rfl) (fun _ _ => by kernel_rfl) ?_
    with_reducible refine q_load 55 (.tmp 70) (.pointer (some ⟨w.heap.size, 9, none⟩)) (.agg (ar .u64 16 m)) rfl (by kernel_rfl) (by kernel_rfl) (fun _ c => in_m c.c.x) ?_
    with_reducible refine q_val (.pointer (some ⟨w.heap.size, 25, none⟩)) (by kernel_rfl) (fun _ _ => by kernel_rfl) ?_
    with_reducible refine q_load 56 (.tmp 72) (.pointer (some ⟨w.heap.size, 25, none⟩)) (.agg (ar .u64 2 t)) rfl (by kernel_rfl) (by kernel_rfl) (fun _ c => in_t c.c.x) ?_
    with_reducible refine q_val (.pointer (some ⟨w.heap.size, 27, none⟩)) (by kernel_rfl) (fun _ _ => by kernel_rfl) ?_
    with_reducible refine q_load 4 (.tmp 74) (.pointer (some ⟨w.heap.size, 27, none⟩)) (.bool last) rfl (by kernel_rfl) (by kernel_rfl) (fun _ c => in_l c.c.x) ?_
    with_reducible refine q_call 37 #[.int .u32 (1 : Nat), .agg (ar .u64 8 h), .agg (ar .u64 16 m), .agg (ar .u64 2 t), .bool last] (.agg (ar .u64 8 ra)) (by kernel_rfl) (fun _ => by kernel_rfl) (RF.out) ?_
    with_reducible refine q_bin .eql 54 _ _ 54 (.agg (ar .u64 8 ra)) (.agg (ar .u64 8 ra)) (.bool true) rfl (by kernel_rfl) (by kernel_rfl) (by kernel_rfl) (fun w => eqg8 ra _ _ w) (fun w => eqb8 ra w) ?_
    with_reducible refine q_val (.bool true) (by kernel_rfl) (fun _ _ => by kernel_rfl) ?_
    with_reducible refine q_val (.bool true) (by kernel_rfl) (fun _ _ => by kernel_rfl) ?_
    with_reducible refine q_load 54 (.tmp 9) (.pointer (some ⟨E, 0, none⟩)) (.agg (ar .u64 8 rb)) rfl (by kernel_rfl) (by kernel_rfl) (fun _ c => load_8r c.b) ?_
    with_reducible refine q_val (.pointer (some ⟨w.heap.size + 1, 1, none⟩)) (by kernel_rfl) (fun _ _ => by kernel_rfl) ?_
    with_reducible refine q_load 54 (.tmp 81) (.pointer (some ⟨w.heap.size + 1, 1, none⟩)) (.agg (ar .u64 8 h)) rfl (by kernel_rfl) (by kernel_rfl) (fun _ c => in_h c.c.y) ?_
    with_reducible refine q_val (.pointer (some ⟨w.heap.size + 1, 9, none⟩)) (by kernel_rfl) (fun _ _ => by kernel_rfl) ?_
    with_reducible refine q_load 55 (.tmp 83) (.pointer (some ⟨w.heap.size + 1, 9, none⟩)) (.agg (ar .u64 16 m2)) rfl (by kernel_rfl) (by kernel_rfl) (fun _ c => in_m c.c.y) ?_
    with_reducible refine q_val (.pointer (some ⟨w.heap.size + 1, 25, none⟩)) (by kernel_rfl) (fun _ _ => by kernel_rfl) ?_
    with_reducible refine q_load 56 (.tmp 85) (.pointer (some ⟨w.heap.size + 1, 25, none⟩)) (.agg (ar .u64 2 t)) rfl (by kernel_rfl) (by kernel_rfl) (fun _ c => in_t c.c.y) ?_
    with_reducible refine q_val (.pointer (some ⟨w.heap.size + 1, 27, none⟩)) (by kernel_rfl) (fun _ _ => by kernel_rfl) ?_
    with_reducible refine q_load 4 (.tmp 87) (.pointer (some ⟨w.heap.size + 1, 27, none⟩)) (.bool last) rfl (by kernel_rfl) (by kernel_rfl) (fun _ c => in_l c.c.y) ?_
    with_reducible refine q_call 37 #[.int .u32 (1 : Nat), .agg (ar .u64 8 h), .agg (ar .u64 16 m2), .agg (ar .u64 2 t), .bool last] (.agg (ar .u64 8 rb)) (by kernel_rfl) (fun _ => by kernel_rfl) (RG.out) ?_
    with_reducible refine q_bin .eql 54 _ _ 54 (.agg (ar .u64 8 rb)) (.agg (ar .u64 8 rb)) (.bool true) rfl (by kernel_rfl) (by kernel_rfl) (by kernel_rfl) (fun w => eqg8 rb _ _ w) (fun w => eqb8 rb w) ?_
    with_reducible refine q_val (.bool true) (by kernel_rfl) (fun _ _ => by kernel_rfl) ?_
    with_reducible refine q_val (.bool true) (by kernel_rfl) (fun _ _ => by kernel_rfl) ?_
    with_reducible refine q_call 38 #[] (.bool true) (by kernel_rfl) (fun _ => by kernel_rfl) (HL.out) ?_
    with_reducible refine q_val (.bool true) (by kernel_rfl) (fun _ _ => by kernel_rfl) ?_
    with_reducible refine q_val (.bool true) (by kernel_rfl) (fun _ _ => by kernel_rfl) ?_
    with_reducible refine wpQuiet_nil ?_
    intro wx hC
    have HCx := Lib.hid hC
    clear hC
    simp only [Act.put, List.setIfInBounds_toArray, List.set_cons_succ, List.set_cons_zero]
    go_wp2_with fail
    go_ret
    exact ⟨rfl, HCx.out.c.old⟩
end Go.Proofs.YtoeomlmnejhgpaaDoor

/- The permutation's third step: what mixRows comes to. -/
import Derived.Test.YtcmpnnfnkcmpcaaDoorKBt
namespace Go.Proofs.YtcmpnnfnkcmpcaaDoor
open Go.RowKit

/-- The first m lanes mixed. -/
def kce (v : Nat → Int) (m j : Nat) : Int := if j < m then kch v j else v j
theorem kce_next (v : Nat → Int) (m : Nat) : updI (kce v m) m (kch v m) = kce v (m + 1) := by
  funext j
  unfold updI kce
  by_cases h : j = m
  · subst h; rw [if_pos rfl, if_pos (by omega)]
  · rw [if_neg h]
    by_cases h2 : j < m
    · rw [if_pos h2, if_pos (by omega)]
    · rw [if_neg h2, if_neg (by omega)]
theorem kce_all (v : Nat → Int) (tl : Array Value) : kr (kce v 25) tl = kr (kch v) tl := by
  unfold kr
  rw [ar_congr (fun j hj => show kce v 25 j = kch v j by unfold kce; rw [if_pos hj])]
theorem kch_of (v : Nat → Int) (o i a b : Nat) (ho : o % 5 = 0) (hi : i < 5) (ha : (i + 2) % 5 = a) (hb : (i + 1) % 5 = b) : bits .xor .u64 (v (o + i)) (bits .andNot .u64 (v (o + a)) (v (o + b))) = kch v (o + i) := by
  unfold kch
  rw [show ((o + i) % 5 + 2) % 5 + 5 * ((o + i) / 5) = o + a by omega, show ((o + i) % 5 + 1) % 5 + 5 * ((o + i) / 5) = o + b by omega]
theorem sl25 (V o : Nat) (h : o + 5 ≤ 25) (w : World) : (Instr.sliceAt 44 (.pointer (some ⟨V, 0, none⟩)) (some (.int .i64 (o : Nat))) (some (.int .i64 ((o : Int) + 5))) none).run Tryd.prog w = .ok (.slice (some ⟨V, o, none⟩) 5 (25 - o)) w := by
  have hlen : Tryd.prog.arrayLen 44 = 25 := by kernel_rfl
  have hsz : (sizeOf (Tryd.prog.elem 44)).run Tryd.prog w = .ok 1 w := by kernel_rfl
  rw [run_sliceAt_array_lh w 44 ⟨V, 0, none⟩ (by kernel_rfl) .i64 .i64 _ _ (by omega) (by omega) (by rw [hlen]; omega), hsz, hlen]
  simp only [Result.andThen, slicedAt, Addr.add]
  rw [if_neg (by omega), show ((o : Int) + 5).toNat = o + 5 by omega, Int.toNat_natCast, show o + 5 - o = 5 by omega]
  simp
  omega
theorem info1q : (Tryd.prog.info? 34).map (·.size) = some 1 := by kernel_rfl
theorem z5_row (f : Nat → Int) : ((#[.int .u64 0, .int .u64 0, .int .u64 0, .int .u64 0, .int .u64 0] : Array Value).toList.take 0 ++ (ar .u64 5 f).toList ++ (#[.int .u64 0, .int .u64 0, .int .u64 0, .int .u64 0, .int .u64 0] : Array Value).toList.drop (0 + (ar .u64 5 f).toList.length)).toArray = ar .u64 5 f := by
  kernel_rfl
/-- A row of five copied. -/
theorem copy5 {w : World} {R V o c : Nat} {v : Nat → Int} (hR : w.heap[R]? = some (.cells #[.int .u64 0, .int .u64 0, .int .u64 0, .int .u64 0, .int .u64 0] 48 (0, 0))) (hV : ∀ j, j < 5 → w.cell? ⟨V, o + j, none⟩ = some (.int .u64 (v (o + j)))) :
    (Builtin.copy_ #[50, 50] 3 #[.slice (some ⟨R, 0, none⟩) 5 5, .slice (some ⟨V, o, none⟩) 5 c]).run Tryd.prog w = .ok (.int .i64 5) (w.setRow R (ar .u64 5 fun j => v (o + j))) := by
  have hr := run_copy_row (P := Tryd.prog) w 50 50 3 34 R 0 5 5 ⟨V, o, none⟩ 5 c #[.int .u64 0, .int .u64 0, .int .u64 0, .int .u64 0, .int .u64 0] 48 (ar .u64 5 fun j => v (o + j)).toList Tryd.underlying50 info1q hR (by rw [Array.length_toList, ar_size]; rfl) (fun j x hv => by
    have hj : j < 5 := by
      have := (List.getElem?_eq_some_iff.1 hv).1
      rwa [Array.length_toList, ar_size] at this
    rw [Addr.add_lit]
    refine (hV j hj).trans ?_
    rw [← hv, Array.getElem?_toList, ar_at _ _ _ _ hj]) (by rw [Array.length_toList, ar_size]; decide) (fun x hv => by
    have h1 := ar_one .u64 5 (fun j => v (o + j))
    rw [Array.all_eq_true_iff_forall_mem] at h1
    exact h1 x (by simpa using hv))
  rw [hr, z5_row, Array.length_toList, ar_size]
  rfl
/-- The worlds of a row's mixing: the copy lies at R. -/
structure CM (w : World) (V : Nat) (tt : TypeId) (tl : Array Value) (R : Nat) (f v : Nat → Int) (wx : World) : Prop where
  bt : Bt V w wx
  row : wx.heap[V]? = some (.cells (kr v tl) tt (0, 0))
  rr : wx.heap[R]? = some (.cells (ar .u64 5 f) 48 (0, 0))
  ne : R ≠ V
section
variable {w wx : World} {V R : Nat} {tt : TypeId} {tl : Array Value} {f v : Nat → Int}
theorem CM.drew (c : CM w V tt tl R f v wx) : CM w V tt tl R f v wx.drew := ⟨c.bt.drew, c.row, c.rr, c.ne⟩
theorem CM.cell (c : CM w V tt tl R f v wx) (j : Nat) (hj : j < 25) : wx.cell? ⟨V, j, none⟩ = some (.int .u64 (v j)) :=
  (cell_of_row wx _ j _ _ _ c.row).trans (kr_at _ _ _ hj)
theorem CM.at' (c : CM w V tt tl R f v wx) (j : Nat) (hj : j < 25) (y : Int) (hy : v j = y) : (Instr.loadAt 34 (.pointer (some ⟨V, j, none⟩))).run Tryd.prog wx = .ok (.int .u64 y) wx := kload _ _ _ _ (by rw [← hy]; exact c.cell j hj)
theorem CM.rat (c : CM w V tt tl R f v wx) (j : Nat) (hj : j < 5) : (Instr.loadAt 34 (.pointer (some ⟨R, j, none⟩))).run Tryd.prog wx = .ok (.int .u64 (f j)) wx := kload _ _ _ _ ((cell_of_row wx _ j _ _ _ c.rr).trans (ar_at _ _ _ _ hj))
theorem CM.set (c : CM w V tt tl R f v wx) (j : Nat) (hj : j < 25) (y : Int) : CM w V tt tl R f (updI v j y) (wx.setCell ⟨V, j, none⟩ (.int .u64 y)) :=
  ⟨c.bt.set j _, (heap_setCell_same _ _ _ _ _ _ c.row).trans (by rw [kr_set _ _ _ _ hj]), (heap_setCell_other _ _ _ _ c.ne).trans c.rr, c.ne⟩
end
set_option maxRecDepth 100000 in
set_option maxHeartbeats 4000000 in
-- THE THIRD STEP.
theorem krows {V : Nat} {tt : TypeId} {tl : Array Value} {v : Nat → Int} (w : World) (hw : w.heap[V]? = some (.cells (kr v tl) tt (0, 0))) :
    Calls Tryd.prog 41 #[.pointer (some ⟨V, 0, none⟩)] w fun e w' => e = .returned (.tuple #[]) ∧ CP w V tt tl (kch v) w' := by
  have HV := Lib.hid (Array.getElem?_eq_some_iff.1 hw).1
  have H0 := Lib.hid (show CP w V tt tl (kce v 0) w from ⟨Bt.refl _ _, by rw [show kce v 0 = v from funext fun j => by unfold kce; rw [if_neg (by omega)]]; exact hw⟩)
  clear hw
  go_enter Tryd.func41, Tryd.ntmps41
  go_wp2_with fail
  go_loopw [2] (fun i wr => ∃ o : Nat, o ≤ 25 ∧ o % 5 = 0 ∧ i = .int .i64 o ∧ Hid (CP w V tt tl (kce v o) wr)) (fun i _ => 25 - (intOf i).toNat)
  case atStart => exact ⟨0, by omega, rfl, rfl, H0⟩
  case round =>
    obtain ⟨o, ho, hm, rfl, H⟩ := hrel
    clear H0
    have ho0 : (0 : Int) ≤ o := by omega
    by_cases hlt : o < 25
    · have hlt' : (o : Int) < 25 := by omega
      have ho5 : o + 5 ≤ 25 := by omega
      have hsl := sl25 V o ho5
      obtain ⟨R, hR⟩ : ∃ R, wr.heap.size = R := ⟨_, rfl⟩
      have hVR : V < R := by have := HV.out; have := H.out.bt.size; omega
      have hcp := copy5 (w := wr.alloc (.cells #[.int .u64 0, .int .u64 0, .int .u64 0, .int .u64 0, .int .u64 0] 48)) (R := R) (V := V) (o := o) (c := 25 - o) (v := v) (by rw [← hR]; exact heap_alloc_new _ _) (fun j hj => by
        rw [show (⟨V, o + j, none⟩ : Addr) = ⟨V, o + j, none⟩ from rfl]
        refine (World.cell?_of_block (w := wr) (heap_alloc_old _ _ (by show V < wr.heap.size; omega))).trans ((H.out.cell (o + j) (by omega)).trans ?_)
        unfold kce
        rw [if_neg (by omega)])
      have H1 := Lib.hid (show CM w V tt tl R (fun j => v (o + j)) (kce v o) ((wr.alloc (.cells #[.int .u64 0, .int .u64 0, .int .u64 0, .int .u64 0, .int .u64 0] 48)).setRow R (ar .u64 5 fun j => v (o + j))) from
        ⟨(H.out.bt.alloc _).setRow (by have := H.out.bt.size; omega) _, (setRow_other _ _ _ _ (by omega)).trans ((heap_alloc_old _ _ (by omega)).trans H.out.row), setRow_heap _ _ _ _ _ _ (by rw [← hR]; exact heap_alloc_new _ _), by omega⟩)
      go_wp2_with fail
      clear hcp hsl H
      -- region 0
      have hz0 : kce v (o) (o) = v (o) := by unfold kce; rw [if_neg (by omega)]
      refine region_quiet_tail 10 (CM w V tt tl R (fun j => v (o + j)) (kce v (o))) (by kernel_rfl) (by kernel_rfl) H1.out.drew ?_
      simp only [List.take_succ_cons, List.take_zero, List.drop_succ_cons, List.drop_zero]
      with_reducible refine q_val (.slice (some ⟨V, o, none⟩) 5 (25 - o)) (by kernel_rfl) (fun _ _ => by kernel_rfl) ?_
      with_reducible refine q_val (.pointer (some ⟨V, o, none⟩)) (by kernel_rfl) (fun _ _ => by kernel_rfl) ?_
      with_reducible refine q_load 34 (.tmp 19) (.pointer (some ⟨V, o, none⟩)) (.int .u64 (v (o))) rfl (by kernel_rfl) (by kernel_rfl) (fun _ h => h.at' (o) (by omega) _ hz0) ?_
      with_reducible refine q_val (.pointer (some ⟨R, 2, none⟩)) (by kernel_rfl) (fun _ _ => by kernel_rfl) ?_
      with_reducible refine q_load 34 (.tmp 21) (.pointer (some ⟨R, 2, none⟩)) (.int .u64 (v (o + 2))) rfl (by kernel_rfl) (by kernel_rfl) (fun _ h => h.rat 2 (by omega)) ?_
      with_reducible refine q_val (.pointer (some ⟨R, 1, none⟩)) (by kernel_rfl) (fun _ _ => by kernel_rfl) ?_
      with_reducible refine q_load 34 (.tmp 23) (.pointer (some ⟨R, 1, none⟩)) (.int .u64 (v (o + 1))) rfl (by kernel_rfl) (by kernel_rfl) (fun _ h => h.rat 1 (by omega)) ?_
      with_reducible refine q_val (.int .u64 (bits .andNot .u64 (v (o + 2)) (v (o + 1)))) (by kernel_rfl) (fun _ _ => by kernel_rfl) ?_
      with_reducible refine q_val (.int .u64 (bits .xor .u64 (v (o)) (bits .andNot .u64 (v (o + 2)) (v (o + 1))))) (by kernel_rfl) (fun _ _ => by kernel_rfl) ?_
      with_reducible refine q_val (.pointer (some ⟨V, o, none⟩)) (by kernel_rfl) (fun _ _ => by kernel_rfl) ?_
      with_reducible refine wpQuiet_nil ?_
      intro w1 hCx
      simp only [Act.put, List.setIfInBounds_toArray, List.set_cons_succ, List.set_cons_zero]
      have ek := kch_of v o 0 2 1 hm (by omega) rfl rfl
      rw [Nat.add_zero] at ek
      rw [ek]
      clear ek
      have co0 := hCx.cell (o) (by omega)
      have fo0 := frozen_of_row _ _ (o) _ _ hCx.row
      have H2 := Lib.hid (hCx.set (o) (by omega) (kch v (o)))
      rw [kce_next] at H2
      clear hCx
      -- region 1
      go_wp2_with fail
      have hz1 : kce v (o + 1) (o + 1) = v (o + 1) := by unfold kce; rw [if_neg (by omega)]
      refine region_quiet_tail 10 (CM w V tt tl R (fun j => v (o + j)) (kce v (o + 1))) (by kernel_rfl) (by kernel_rfl) H2.out.drew ?_
      simp only [List.take_succ_cons, List.take_zero, List.drop_succ_cons, List.drop_zero]
      with_reducible refine q_val (.slice (some ⟨V, o, none⟩) 5 (25 - o)) (by kernel_rfl) (fun _ _ => by kernel_rfl) ?_
      with_reducible refine q_val (.pointer (some ⟨V, o + 1, none⟩)) (by kernel_rfl) (fun _ _ => by kernel_rfl) ?_
      with_reducible refine q_load 34 (.tmp 29) (.pointer (some ⟨V, o + 1, none⟩)) (.int .u64 (v (o + 1))) rfl (by kernel_rfl) (by kernel_rfl) (fun _ h => h.at' (o + 1) (by omega) _ hz1) ?_
      with_reducible refine q_val (.pointer (some ⟨R, 3, none⟩)) (by kernel_rfl) (fun _ _ => by kernel_rfl) ?_
      with_reducible refine q_load 34 (.tmp 31) (.pointer (some ⟨R, 3, none⟩)) (.int .u64 (v (o + 3))) rfl (by kernel_rfl) (by kernel_rfl) (fun _ h => h.rat 3 (by omega)) ?_
      with_reducible refine q_val (.pointer (some ⟨R, 2, none⟩)) (by kernel_rfl) (fun _ _ => by kernel_rfl) ?_
      with_reducible refine q_load 34 (.tmp 33) (.pointer (some ⟨R, 2, none⟩)) (.int .u64 (v (o + 2))) rfl (by kernel_rfl) (by kernel_rfl) (fun _ h => h.rat 2 (by omega)) ?_
      with_reducible refine q_val (.int .u64 (bits .andNot .u64 (v (o + 3)) (v (o + 2)))) (by kernel_rfl) (fun _ _ => by kernel_rfl) ?_
      with_reducible refine q_val (.int .u64 (bits .xor .u64 (v (o + 1)) (bits .andNot .u64 (v (o + 3)) (v (o + 2))))) (by kernel_rfl) (fun _ _ => by kernel_rfl) ?_
      with_reducible refine q_val (.pointer (some ⟨V, o + 1, none⟩)) (by kernel_rfl) (fun _ _ => by kernel_rfl) ?_
      with_reducible refine wpQuiet_nil ?_
      intro w2 hCx
      simp only [Act.put, List.setIfInBounds_toArray, List.set_cons_succ, List.set_cons_zero]
      have ek := kch_of v o 1 3 2 hm (by omega) rfl rfl
      rw [ek]
      clear ek
      have co1 := hCx.cell (o + 1) (by omega)
      have fo1 := frozen_of_row _ _ (o + 1) _ _ hCx.row
      have H3 := Lib.hid (hCx.set (o + 1) (by omega) (kch v (o + 1)))
      rw [kce_next] at H3
      clear hCx
      -- region 2
      go_wp2_with fail
      have hz2 : kce v (o + 2) (o + 2) = v (o + 2) := by unfold kce; rw [if_neg (by omega)]
      refine region_quiet_tail 10 (CM w V tt tl R (fun j => v (o + j)) (kce v (o + 2))) (by kernel_rfl) (by kernel_rfl) H3.out.drew ?_
      simp only [List.take_succ_cons, List.take_zero, List.drop_succ_cons, List.drop_zero]
      with_reducible refine q_val (.slice (some ⟨V, o, none⟩) 5 (25 - o)) (by kernel_rfl) (fun _ _ => by kernel_rfl) ?_
      with_reducible refine q_val (.pointer (some ⟨V, o + 2, none⟩)) (by kernel_rfl) (fun _ _ => by kernel_rfl) ?_
      with_reducible refine q_load 34 (.tmp 39) (.pointer (some ⟨V, o + 2, none⟩)) (.int .u64 (v (o + 2))) rfl (by kernel_rfl) (by kernel_rfl) (fun _ h => h.at' (o + 2) (by omega) _ hz2) ?_
      with_reducible refine q_val (.pointer (some ⟨R, 4, none⟩)) (by kernel_rfl) (fun _ _ => by kernel_rfl) ?_
      with_reducible refine q_load 34 (.tmp 41) (.pointer (some ⟨R, 4, none⟩)) (.int .u64 (v (o + 4))) rfl (by kernel_rfl) (by kernel_rfl) (fun _ h => h.rat 4 (by omega)) ?_
      with_reducible refine q_val (.pointer (some ⟨R, 3, none⟩)) (by kernel_rfl) (fun _ _ => by kernel_rfl) ?_
      with_reducible refine q_load 34 (.tmp 43) (.pointer (some ⟨R, 3, none⟩)) (.int .u64 (v (o + 3))) rfl (by kernel_rfl) (by kernel_rfl) (fun _ h => h.rat 3 (by omega)) ?_
      with_reducible refine q_val (.int .u64 (bits .andNot .u64 (v (o + 4)) (v (o + 3)))) (by kernel_rfl) (fun _ _ => by kernel_rfl) ?_
      with_reducible refine q_val (.int .u64 (bits .xor .u64 (v (o + 2)) (bits .andNot .u64 (v (o + 4)) (v (o + 3))))) (by kernel_rfl) (fun _ _ => by kernel_rfl) ?_
      with_reducible refine q_val (.pointer (some ⟨V, o + 2, none⟩)) (by kernel_rfl) (fun _ _ => by kernel_rfl) ?_
      with_reducible refine wpQuiet_nil ?_
      intro w3 hCx
      simp only [Act.put, List.setIfInBounds_toArray, List.set_cons_succ, List.set_cons_zero]
      have ek := kch_of v o 2 4 3 hm (by omega) rfl rfl
      rw [ek]
      clear ek
      have co2 := hCx.cell (o + 2) (by omega)
      have fo2 := frozen_of_row _ _ (o + 2) _ _ hCx.row
      have H4 := Lib.hid (hCx.set (o + 2) (by omega) (kch v (o + 2)))
      rw [kce_next] at H4
      clear hCx
      -- region 3
      go_wp2_with fail
      have hz3 : kce v (o + 3) (o + 3) = v (o + 3) := by unfold kce; rw [if_neg (by omega)]
      refine region_quiet_tail 10 (CM w V tt tl R (fun j => v (o + j)) (kce v (o + 3))) (by kernel_rfl) (by kernel_rfl) H4.out.drew ?_
      simp only [List.take_succ_cons, List.take_zero, List.drop_succ_cons, List.drop_zero]
      with_reducible refine q_val (.slice (some ⟨V, o, none⟩) 5 (25 - o)) (by kernel_rfl) (fun _ _ => by kernel_rfl) ?_
      with_reducible refine q_val (.pointer (some ⟨V, o + 3, none⟩)) (by kernel_rfl) (fun _ _ => by kernel_rfl) ?_
      with_reducible refine q_load 34 (.tmp 49) (.pointer (some ⟨V, o + 3, none⟩)) (.int .u64 (v (o + 3))) rfl (by kernel_rfl) (by kernel_rfl) (fun _ h => h.at' (o + 3) (by omega) _ hz3) ?_
      with_reducible refine q_val (.pointer (some ⟨R, 0, none⟩)) (by kernel_rfl) (fun _ _ => by kernel_rfl) ?_
      with_reducible refine q_load 34 (.tmp 51) (.pointer (some ⟨R, 0, none⟩)) (.int .u64 (v (o + 0))) rfl (by kernel_rfl) (by kernel_rfl) (fun _ h => h.rat 0 (by omega)) ?_
      with_reducible refine q_val (.pointer (some ⟨R, 4, none⟩)) (by kernel_rfl) (fun _ _ => by kernel_rfl) ?_
      with_reducible refine q_load 34 (.tmp 53) (.pointer (some ⟨R, 4, none⟩)) (.int .u64 (v (o + 4))) rfl (by kernel_rfl) (by kernel_rfl) (fun _ h => h.rat 4 (by omega)) ?_
      with_reducible refine q_val (.int .u64 (bits .andNot .u64 (v (o + 0)) (v (o + 4)))) (by kernel_rfl) (fun _ _ => by kernel_rfl) ?_
      with_reducible refine q_val (.int .u64 (bits .xor .u64 (v (o + 3)) (bits .andNot .u64 (v (o + 0)) (v (o + 4))))) (by kernel_rfl) (fun _ _ => by kernel_rfl) ?_
      with_reducible refine q_val (.pointer (some ⟨V, o + 3, none⟩)) (by kernel_rfl) (fun _ _ => by kernel_rfl) ?_
      with_reducible refine wpQuiet_nil ?_
      intro w4 hCx
      simp only [Act.put, List.setIfInBounds_toArray, List.set_cons_succ, List.set_cons_zero]
      have ek := kch_of v o 3 0 4 hm (by omega) rfl rfl
      rw [ek]
      clear ek
      have co3 := hCx.cell (o + 3) (by omega)
      have fo3 := frozen_of_row _ _ (o + 3) _ _ hCx.row
      have H5 := Lib.hid (hCx.set (o + 3) (by omega) (kch v (o + 3)))
      rw [kce_next] at H5
      clear hCx
      -- region 4
      go_wp2_with fail
      have hz4 : kce v (o + 4) (o + 4) = v (o + 4) := by unfold kce; rw [if_neg (by omega)]
      refine region_quiet_tail 10 (CM w V tt tl R (fun j => v (o + j)) (kce v (o + 4))) (by kernel_rfl) (by kernel_rfl) H5.out.drew ?_
      simp only [List.take_succ_cons, List.take_zero, List.drop_succ_cons, List.drop_zero]
      with_reducible refine q_val (.slice (some ⟨V, o, none⟩) 5 (25 - o)) (by kernel_rfl) (fun _ _ => by kernel_rfl) ?_
      with_reducible refine q_val (.pointer (some ⟨V, o + 4, none⟩)) (by kernel_rfl) (fun _ _ => by kernel_rfl) ?_
      with_reducible refine q_load 34 (.tmp 59) (.pointer (some ⟨V, o + 4, none⟩)) (.int .u64 (v (o + 4))) rfl (by kernel_rfl) (by kernel_rfl) (fun _ h => h.at' (o + 4) (by omega) _ hz4) ?_
      with_reducible refine q_val (.pointer (some ⟨R, 1, none⟩)) (by kernel_rfl) (fun _ _ => by kernel_rfl) ?_
      with_reducible refine q_load 34 (.tmp 61) (.pointer (some ⟨R, 1, none⟩)) (.int .u64 (v (o + 1))) rfl (by kernel_rfl) (by kernel_rfl) (fun _ h => h.rat 1 (by omega)) ?_
      with_reducible refine q_val (.pointer (some ⟨R, 0, none⟩)) (by kernel_rfl) (fun _ _ => by kernel_rfl) ?_
      with_reducible refine q_load 34 (.tmp 63) (.pointer (some ⟨R, 0, none⟩)) (.int .u64 (v (o + 0))) rfl (by kernel_rfl) (by kernel_rfl) (fun _ h => h.rat 0 (by omega)) ?_
      with_reducible refine q_val (.int .u64 (bits .andNot .u64 (v (o + 1)) (v (o + 0)))) (by kernel_rfl) (fun _ _ => by kernel_rfl) ?_
      with_reducible refine q_val (.int .u64 (bits .xor .u64 (v (o + 4)) (bits .andNot .u64 (v (o + 1)) (v (o + 0))))) (by kernel_rfl) (fun _ _ => by kernel_rfl) ?_
      with_reducible refine q_val (.pointer (some ⟨V, o + 4, none⟩)) (by kernel_rfl) (fun _ _ => by kernel_rfl) ?_
      with_reducible refine wpQuiet_nil ?_
      intro w5 hCx
      simp only [Act.put, List.setIfInBounds_toArray, List.set_cons_succ, List.set_cons_zero]
      have ek := kch_of v o 4 1 0 hm (by omega) rfl rfl
      rw [ek]
      clear ek
      have co4 := hCx.cell (o + 4) (by omega)
      have fo4 := frozen_of_row _ _ (o + 4) _ _ hCx.row
      have H6 := Lib.hid (hCx.set (o + 4) (by omega) (kch v (o + 4)))
      rw [kce_next] at H6
      clear hCx
      go_wp2_with fail
      go_roundw
      case rel => exact ⟨o + 5, by omega, by omega, by go_num, Lib.hid ⟨H6.out.bt, H6.out.row⟩⟩
      case measure => simp [intOf]; omega
    · obtain rfl : o = 25 := by omega
      have hr := H.out.row
      rw [kce_all] at hr
      have HR := Lib.hid (And.intro H.out.bt hr)
      clear hr
      go_wp2_with fail
      go_end0
      exact ⟨rfl, HR.out.1, HR.out.2⟩
end Go.Proofs.YtcmpnnfnkcmpcaaDoor

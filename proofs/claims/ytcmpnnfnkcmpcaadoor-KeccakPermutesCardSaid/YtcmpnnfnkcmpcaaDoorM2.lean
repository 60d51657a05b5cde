/- The reference of layer 3: a round. Its array of arrays holds the lane (x, y) at 5x + y. (With it, merged: KBt · KRows · KMove · KRef · KRR.) -/
import Derived.Test.YtcmpnnfnkcmpcaaDoorM1
import Derived.Laws.CopyRow
import Derived.Deep.AppendLies
namespace Go.Proofs.YtcmpnnfnkcmpcaaDoor
open Go.RowKit

/-- Nothing that was there has turned but the block V. -/
structure Bt (V : Nat) (w w' : World) : Prop where
  os : w'.os = w.os
  tape : w'.tape = w.tape
  output : w'.output = w.output
  size : w.heap.size ≤ w'.heap.size
  block : ∀ k, k ≠ V → k < w.heap.size → w'.heap[k]? = w.heap[k]?
theorem Bt.refl (V : Nat) (w : World) : Bt V w w := ⟨rfl, rfl, rfl, Nat.le_refl _, fun _ _ _ => rfl⟩
theorem Bt.trans {V : Nat} {w w' w'' : World} (h : Bt V w w') (h' : Bt V w' w'') : Bt V w w'' :=
  ⟨h'.os.trans h.os, h'.tape.trans h.tape, h'.output.trans h.output, Nat.le_trans h.size h'.size, fun k hk hl => (h'.block k hk (Nat.lt_of_lt_of_le hl h.size)).trans (h.block k hk hl)⟩
theorem Bt.of_kbut {V : Nat} {w w' : World} (h : KBut V w w') : Bt V w w' := ⟨h.os, h.tape, h.output, Nat.le_of_eq h.size.symm, fun k hk _ => h.block k hk⟩
theorem Bt.of_below {V : Nat} {w w' : World} (h : Below w.heap.size w w') : Bt V w w' := ⟨h.os, h.tape, h.output, h.size, fun k _ hl => h.block k hl⟩
theorem Bt.below {V B : Nat} {w0 w w' : World} (h0 : Below B w0 w) (h : Bt V w w') (hB : B ≤ V) (hl : B ≤ w.heap.size) : Below B w0 w' :=
  h0.trans ⟨h.os, h.tape, h.output, h.size, fun k hk => h.block k (by omega) (by omega)⟩
theorem Bt.drew {V : Nat} {w w' : World} (h : Bt V w w') : Bt V w w'.drew := ⟨h.os, h.tape, h.output, h.size, h.block⟩
theorem Bt.set {V : Nat} {w w' : World} (h : Bt V w w') (j : Nat) (u : Value) : Bt V w (w'.setCell ⟨V, j, none⟩ u) :=
  ⟨h.os, h.tape, h.output, by simpa using h.size, fun k hk hl => (Below.heap_setCell _ _ _ _ hk).trans (h.block k hk hl)⟩
theorem Bt.setRow {V R : Nat} {w w' : World} (h : Bt V w w') (hR : w.heap.size ≤ R) (cs : Array Value) : Bt V w (w'.setRow R cs) :=
  ⟨h.os, h.tape, h.output, by simpa using h.size, fun k hk hl => (setRow_other _ _ _ _ (by omega)).trans (h.block k hk hl)⟩
theorem Bt.cell {V : Nat} {w w' : World} (h : Bt V w w') {p : Addr} (hp : p.block ≠ V) (hl : p.block < w.heap.size) : w'.cell? p = w.cell? p := World.cell?_of_block (w := w) (h.block p.block hp hl)
theorem Bt.alloc {V : Nat} {w w' : World} (h : Bt V w w') (o : Obj) : Bt V w (w'.alloc o) := h.trans (Bt.of_below ((Below.refl _ _).alloc (Nat.le_refl _) _))
/-- The worlds of the permutation: 25 numbers ahead of a tail in the block V. -/
structure CP (w : World) (V : Nat) (tt : TypeId) (tl : Array Value) (v : Nat → Int) (wx : World) : Prop where
  bt : Bt V w wx
  row : wx.heap[V]? = some (.cells (kr v tl) tt (0, 0))
section
variable {w wx : World} {V : Nat} {tt : TypeId} {tl : Array Value} {v : Nat → Int}
theorem CP.drew (c : CP w V tt tl v wx) : CP w V tt tl v wx.drew := ⟨c.bt.drew, c.row⟩
theorem CP.cell (c : CP w V tt tl v wx) (j : Nat) (hj : j < 25) : wx.cell? ⟨V, j, none⟩ = some (.int .u64 (v j)) :=
  (cell_of_row wx _ j _ _ _ c.row).trans (kr_at _ _ _ hj)
theorem CP.at' (c : CP w V tt tl v wx) (j : Nat) (hj : j < 25) (y : Int) (hy : v j = y) : (Instr.loadAt 34 (.pointer (some ⟨V, j, none⟩))).run Tryd.prog wx = .ok (.int .u64 y) wx := kload _ _ _ _ (by rw [← hy]; exact c.cell j hj)
theorem CP.set (c : CP w V tt tl v wx) (j : Nat) (hj : j < 25) (y : Int) : CP w V tt tl (updI v j y) (wx.setCell ⟨V, j, none⟩ (.int .u64 y)) :=
  ⟨c.bt.set j _, (heap_setCell_same _ _ _ _ _ _ c.row).trans (by rw [kr_set _ _ _ _ hj])⟩
end
theorem wpList_val {P : Program} {ops : Array Oper} {rest : List Oper} {o : Oper} {a : Act} {w w' : World} {Q : Exit → Act → World → Prop} (hgd : o.guard = none) (v : Value) (hr : (execOp a.eval o).run P w = .ok (.value v) w')
    (h : wpList P ops Q rest (a.put o.dst v) w') : wpList P ops Q (o :: rest) a w :=
  wpList_plain hgd fun _ hK => by
    unfold Oper.wp
    rw [hr]
    exact hK _ _ h
theorem wpList_sem {P : Program} {ops : Array Oper} {rest : List Oper} {o : Oper} {a : Act} {w w' : World} {Q : Exit → Act → World → Prop} (hgd : o.guard = none) (s : Sem Value) (v : Value) (ho : execOp a.eval o = (do let x ← s; pure (.value x))) (hr : s.run P w = .ok v w')
    (h : wpList P ops Q rest (a.put o.dst v) w') : wpList P ops Q (o :: rest) a w :=
  wpList_val hgd v (by rw [ho]; simp only [Sem.run_bind, hr, Result.andThen_ok, Sem.run_pure]) h
end Go.Proofs.YtcmpnnfnkcmpcaaDoor
namespace Go.Proofs.YtcmpnnfnkcmpcaaDoor
open Go.RowKit

/-- The first m lanes mixed. -/
def kce (v : Nat → Int) (m j : Nat) : Int := if j < m then kch v j else v j
theorem kce_next (v : Nat → Int) (m : Nat) : updI (kce v m) m (kch v m) = kce v (m + 1) := by
  funext j
  unfold updI kce
  by_cases h : j = m
  · subst h; rw [if_pos rfl, if_pos (by omega)]
  · rw [if_neg h]
    by_cases h2 : j < m
    · rw [if_pos h2, if_pos (by omega)]
    · rw [if_neg h2, if_neg (by omega)]
theorem kce_all (v : Nat → Int) (tl : Array Value) : kr (kce v 25) tl = kr (kch v) tl := by
  unfold kr
  rw [ar_congr (fun j hj => show kce v 25 j = kch v j by unfold kce; rw [if_pos hj])]
theorem kch_of (v : Nat → Int) (o i a b : Nat) (ho : o % 5 = 0) (hi : i < 5) (ha : (i + 2) % 5 = a) (hb : (i + 1) % 5 = b) : bits .xor .u64 (v (o + i)) (bits .andNot .u64 (v (o + a)) (v (o + b))) = kch v (o + i) := by
  unfold kch
  rw [show ((o + i) % 5 + 2) % 5 + 5 * ((o + i) / 5) = o + a by omega, show ((o + i) % 5 + 1) % 5 + 5 * ((o + i) / 5) = o + b by omega]
theorem sl25 (V o : Nat) (h : o + 5 ≤ 25) (w : World) : (Instr.sliceAt 44 (.pointer (some ⟨V, 0, none⟩)) (some (.int .i64 (o : Nat))) (some (.int .i64 ((o : Int) + 5))) none).run Tryd.prog w = .ok (.slice (some ⟨V, o, none⟩) 5 (25 - o)) w := by
  have hlen : Tryd.prog.arrayLen 44 = 25 := by kernel_rfl
  have hsz : (sizeOf (Tryd.prog.elem 44)).run Tryd.prog w = .ok 1 w := by kernel_rfl
  rw [run_sliceAt_array_lh w 44 ⟨V, 0, none⟩ (by kernel_rfl) .i64 .i64 _ _ (by omega) (by omega) (by rw [hlen]; omega), hsz, hlen]
  simp only [Result.andThen, slicedAt, Addr.add]
  rw [if_neg (by omega), show ((o : Int) + 5).toNat = o + 5 by omega, Int.toNat_natCast, show o + 5 - o = 5 by omega]
  simp
  omega
theorem info1q : (Tryd.prog.info? 34).map (·.size) = some 1 := by kernel_rfl
theorem z5_row (f : Nat → Int) : ((#[.int .u64 0, .int .u64 0, .int .u64 0, .int .u64 0, .int .u64 0] : Array Value).toList.take 0 ++ (ar .u64 5 f).toList ++ (#[.int .u64 0, .int .u64 0, .int .u64 0, .int .u64 0, .int .u64 0] : Array Value).toList.drop (0 + (ar .u64 5 f).toList.length)).toArray = ar .u64 5 f := by
  kernel_rfl
/-- A row of five copied. -/
theorem copy5 {w : World} {R V o c : Nat} {v : Nat → Int} (hR : w.heap[R]? = some (.cells #[.int .u64 0, .int .u64 0, .int .u64 0, .int .u64 0, .int .u64 0] 48 (0, 0))) (hV : ∀ j, j < 5 → w.cell? ⟨V, o + j, none⟩ = some (.int .u64 (v (o + j)))) :
    (Builtin.copy_ #[50, 50] 3 #[.slice (some ⟨R, 0, none⟩) 5 5, .slice (some ⟨V, o, none⟩) 5 c]).run Tryd.prog w = .ok (.int .i64 5) (w.setRow R (ar .u64 5 fun j => v (o + j))) := by
  have hr := run_copy_row (P := Tryd.prog) w 50 50 3 34 R 0 5 5 ⟨V, o, none⟩ 5 c #[.int .u64 0, .int .u64 0, .int .u64 0, .int .u64 0, .int .u64 0] 48 (ar .u64 5 fun j => v (o + j)).toList Tryd.underlying50 info1q hR (by rw [Array.length_toList, ar_size]; rfl) (fun j x hv => by
    have hj : j < 5 := by
      have := (List.getElem?_eq_some_iff.1 hv).1
      rwa [Array.length_toList, ar_size] at this
    rw [Addr.add_lit]
    refine (hV j hj).trans ?_
    rw [← hv, Array.getElem?_toList, ar_at _ _ _ _ hj]) (by rw [Array.length_toList, ar_size]; decide) (fun x hv => by
    have h1 := ar_one .u64 5 (fun j => v (o + j))
    rw [Array.all_eq_true_iff_forall_mem] at h1
    exact h1 x (by simpa using hv))
  rw [hr, z5_row, Array.length_toList, ar_size]
  rfl
/-- The worlds of a row's mixing: the copy lies at R. -/
structure CMr (w : World) (V : Nat) (tt : TypeId) (tl : Array Value) (R : Nat) (f v : Nat → Int) (wx : World) : Prop where
  bt : Bt V w wx
  row : wx.heap[V]? = some (.cells (kr v tl) tt (0, 0))
  rr : wx.heap[R]? = some (.cells (ar .u64 5 f) 48 (0, 0))
  ne : R ≠ V
section
variable {w wx : World} {V R : Nat} {tt : TypeId} {tl : Array Value} {f v : Nat → Int}
theorem CMr.drew (c : CMr w V tt tl R f v wx) : CMr w V tt tl R f v wx.drew := ⟨c.bt.drew, c.row, c.rr, c.ne⟩
theorem CMr.cell (c : CMr w V tt tl R f v wx) (j : Nat) (hj : j < 25) : wx.cell? ⟨V, j, none⟩ = some (.int .u64 (v j)) :=
  (cell_of_row wx _ j _ _ _ c.row).trans (kr_at _ _ _ hj)
theorem CMr.at' (c : CMr w V tt tl R f v wx) (j : Nat) (hj : j < 25) (y : Int) (hy : v j = y) : (Instr.loadAt 34 (.pointer (some ⟨V, j, none⟩))).run Tryd.prog wx = .ok (.int .u64 y) wx := kload _ _ _ _ (by rw [← hy]; exact c.cell j hj)
theorem CMr.rat (c : CMr w V tt tl R f v wx) (j : Nat) (hj : j < 5) : (Instr.loadAt 34 (.pointer (some ⟨R, j, none⟩))).run Tryd.prog wx = .ok (.int .u64 (f j)) wx := kload _ _ _ _ ((cell_of_row wx _ j _ _ _ c.rr).trans (ar_at _ _ _ _ hj))
theorem CMr.set (c : CMr w V tt tl R f v wx) (j : Nat) (hj : j < 25) (y : Int) : CMr w V tt tl R f (updI v j y) (wx.setCell ⟨V, j, none⟩ (.int .u64 y)) :=
  ⟨c.bt.set j _, (heap_setCell_same _ _ _ _ _ _ c.row).trans (by rw [kr_set _ _ _ _ hj]), (heap_setCell_other _ _ _ _ c.ne).trans c.rr, c.ne⟩
end
set_option maxRecDepth 100000 in
set_option maxHeartbeats 4000000 in
-- THE THIRD STEP.
theorem krows {V : Nat} {tt : TypeId} {tl : Array Value} {v : Nat → Int} (w : World) (hw : w.heap[V]? = some (.cells (kr v tl) tt (0, 0))) :
    Calls Tryd.prog 41 #[.pointer (some ⟨V, 0, none⟩)] w fun e w' => e = .returned (.tuple #[]) ∧ CP w V tt tl (kch v) w' := by
  have HV := Lib.hid (Array.getElem?_eq_some_iff.1 hw).1
  have H0 := Lib.hid (show CP w V tt tl (kce v 0) w from ⟨Bt.refl _ _, by rw [show kce v 0 = v from funext fun j => by unfold kce; rw [if_neg (by omega)]]; exact hw⟩)
  clear hw
  go_enter Tryd.func41, Tryd.ntmps41
  go_wp2_with fail
  go_loopw [2] (fun i wr => ∃ o : Nat, o ≤ 25 ∧ o % 5 = 0 ∧ i = .int .i64 o ∧ Hid (CP w V tt tl (kce v o) wr)) (fun i _ => 25 - (intOf i).toNat)
  case atStart => exact ⟨0, by omega, rfl, rfl, H0⟩
  case round =>
    obtain ⟨o, ho, hm, rfl, H⟩ := hrel
    clear H0
    have ho0 : (0 : Int) ≤ o := by omega
    by_cases hlt : o < 25
    · have hlt' : (o : Int) < 25 := by omega
      have ho5 : o + 5 ≤ 25 := by omega
      have hsl := sl25 V o ho5
      obtain ⟨R, hR⟩ : ∃ R, wr.heap.size = R := ⟨_, rfl⟩
      have hVR : V < R := by have := HV.out; have := H.out.bt.size; omega
      have hcp := copy5 (w := wr.alloc (.cells #[.int .u64 0, .int .u64 0, .int .u64 0, .int .u64 0, .int .u64 0] 48)) (R := R) (V := V) (o := o) (c := 25 - o) (v := v) (by rw [← hR]; exact heap_alloc_new _ _) (fun j hj => by
        rw [show (⟨V, o + j, none⟩ : Addr) = ⟨V, o + j, none⟩ from rfl]
        refine (World.cell?_of_block (w := wr) (heap_alloc_old _ _ (by show V < wr.heap.size; omega))).trans ((H.out.cell (o + j) (by omega)).trans ?_)
        unfold kce
        rw [if_neg (by omega)])
      have H1 := Lib.hid (show CMr w V tt tl R (fun j => v (o + j)) (kce v o) ((wr.alloc (.cells #[.int .u64 0, .int .u64 0, .int .u64 0, .int .u64 0, .int .u64 0] 48)).setRow R (ar .u64 5 fun j => v (o + j))) from
        ⟨(H.out.bt.alloc _).setRow (by have := H.out.bt.size; omega) _, (setRow_other _ _ _ _ (by omega)).trans ((heap_alloc_old _ _ (by omega)).trans H.out.row), setRow_heap _ _ _ _ _ _ (by rw [← hR]; exact heap_alloc_new _ _), by omega⟩)
      go_wp2_with fail
      clear hcp hsl H
      -- region 0
      have hz0 : kce v (o) (o) = v (o) := by unfold kce; rw [if_neg (by omega)]
      refine region_quiet_tail 10 (CMr w V tt tl R (fun j => v (o + j)) (kce v (o))) (by kernel_rfl) (by kernel_rfl) H1.out.drew ?_
      simp only [List.take_succ_cons, List.take_zero, List.drop_succ_cons, List.drop_zero]
      with_reducible refine q_val (.slice (some ⟨V, o, none⟩) 5 (25 - o)) (by kernel_rfl) (fun _ _ => by kernel_rfl) ?_
      with_reducible refine q_val (.pointer (some ⟨V, o, none⟩)) (by kernel_rfl) (fun _ _ => by kernel_rfl) ?_
      with_reducible refine q_load 34 (.tmp 19) (.pointer (some ⟨V, o, none⟩)) (.int .u64 (v (o))) rfl (by kernel_rfl) (by kernel_rfl) (fun _ h => h.at' (o) (by omega) _ hz0) ?_
      with_reducible refine q_val (.pointer (some ⟨R, 2, none⟩)) (by kernel_rfl) (fun _ _ => by kernel_rfl) ?_
      with_reducible refine q_load 34 (.tmp 21) (.pointer (some ⟨R, 2, none⟩)) (.int .u64 (v (o + 2))) rfl (by kernel_rfl) (by kernel_rfl) (fun _ h => h.rat 2 (by omega)) ?_
      with_reducible refine q_val (.pointer (some ⟨R, 1, none⟩)) (by kernel_rfl) (fun _ _ => by kernel_rfl) ?_
      with_reducible refine q_load 34 (.tmp 23) (.pointer (some ⟨R, 1, none⟩)) (.int .u64 (v (o + 1))) rfl (by kernel_rfl) (by kernel_rfl) (fun _ h => h.rat 1 (by omega)) ?_
      with_reducible refine q_val (.int .u64 (bits .andNot .u64 (v (o + 2)) (v (o + 1)))) (by kernel_rfl) (fun _ _ => by kernel_rfl) ?_
      with_reducible refine q_val (.int .u64 (bits .xor .u64 (v (o)) (bits .andNot .u64 (v (o + 2)) (v (o + 1))))) (by kernel_rfl) (fun _ _ => by kernel_rfl) ?_
      with_reducible refine q_val (.pointer (some ⟨V, o, none⟩)) (by kernel_rfl) (fun _ _ => by kernel_rfl) ?_
      with_reducible refine wpQuiet_nil ?_
      intro w1 hCx
      simp only [Act.put, List.setIfInBounds_toArray, List.set_cons_succ, List.set_cons_zero]
      have ek := kch_of v o 0 2 1 hm (by omega) rfl rfl
      rw [Nat.add_zero] at ek
      rw [ek]
      clear ek
      have co0 := hCx.cell (o) (by omega)
      have fo0 := frozen_of_row _ _ (o) _ _ hCx.row
      have H2 := Lib.hid (hCx.set (o) (by omega) (kch v (o)))
      rw [kce_next] at H2
      clear hCx
      -- region 1
      go_wp2_with fail
      have hz1 : kce v (o + 1) (o + 1) = v (o + 1) := by unfold kce; rw [if_neg (by omega)]
      refine region_quiet_tail 10 (CMr w V tt tl R (fun j => v (o + j)) (kce v (o + 1))) (by kernel_rfl) (by kernel_rfl) H2.out.drew ?_
      simp only [List.take_succ_cons, List.take_zero, List.drop_succ_cons, List.drop_zero]
      with_reducible refine q_val (.slice (some ⟨V, o, none⟩) 5 (25 - o)) (by kernel_rfl) (fun _ _ => by kernel_rfl) ?_
      with_reducible refine q_val (.pointer (some ⟨V, o + 1, none⟩)) (by kernel_rfl) (fun _ _ => by kernel_rfl) ?_
      with_reducible refine q_load 34 (.tmp 29) (.pointer (some ⟨V, o + 1, none⟩)) (.int .u64 (v (o + 1))) rfl (by kernel_rfl) (by kernel_rfl) (fun _ h => h.at' (o + 1) (by omega) _ hz1) ?_
      with_reducible refine q_val (.pointer (some ⟨R, 3, none⟩)) (by kernel_rfl) (fun _ _ => by kernel_rfl) ?_
      with_reducible refine q_load 34 (.tmp 31) (.pointer (some ⟨R, 3, none⟩)) (.int .u64 (v (o + 3))) rfl (by kernel_rfl) (by kernel_rfl) (fun _ h => h.rat 3 (by omega)) ?_
      with_reducible refine q_val (.pointer (some ⟨R, 2, none⟩)) (by kernel_rfl) (fun _ _ => by kernel_rfl) ?_
      with_reducible refine q_load 34 (.tmp 33) (.pointer (some ⟨R, 2, none⟩)) (.int .u64 (v (o + 2))) rfl (by kernel_rfl) (by kernel_rfl) (fun _ h => h.rat 2 (by omega)) ?_
      with_reducible refine q_val (.int .u64 (bits .andNot .u64 (v (o + 3)) (v (o + 2)))) (by kernel_rfl) (fun _ _ => by kernel_rfl) ?_
      with_reducible refine q_val (.int .u64 (bits .xor .u64 (v (o + 1)) (bits .andNot .u64 (v (o + 3)) (v (o + 2))))) (by kernel_rfl) (fun _ _ => by kernel_rfl) ?_
      with_reducible refine q_val (.pointer (some ⟨V, o + 1, none⟩)) (by kernel_rfl) (fun _ _ => by kernel_rfl) ?_
      with_reducible refine wpQuiet_nil ?_
      intro w2 hCx
      simp only [Act.put, List.setIfInBounds_toArray, List.set_cons_succ, List.set_cons_zero]
      have ek := kch_of v o 1 3 2 hm (by omega) rfl rfl
      rw [ek]
      clear ek
      have co1 := hCx.cell (o + 1) (by omega)
      have fo1 := frozen_of_row _ _ (o + 1) _ _ hCx.row
      have H3 := Lib.hid (hCx.set (o + 1) (by omega) (kch v (o + 1)))
      rw [kce_next] at H3
      clear hCx
      -- region 2
      go_wp2_with fail
      have hz2 : kce v (o + 2) (o + 2) = v (o + 2) := by unfold kce; rw [if_neg (by omega)]
      refine region_quiet_tail 10 (CMr w V tt tl R (fun j => v (o + j)) (kce v (o + 2))) (by kernel_rfl) (by kernel_rfl) H3.out.drew ?_
      simp only [List.take_succ_cons, List.take_zero, List.drop_succ_cons, List.drop_zero]
      with_reducible refine q_val (.slice (some ⟨V, o, none⟩) 5 (25 - o)) (by kernel_rfl) (fun _ _ => by kernel_rfl) ?_
      with_reducible refine q_val (.pointer (some ⟨V, o + 2, none⟩)) (by kernel_rfl) (fun _ _ => by kernel_rfl) ?_
      with_reducible refine q_load 34 (.tmp 39) (.pointer (some ⟨V, o + 2, none⟩)) (.int .u64 (v (o + 2))) rfl (by kernel_rfl) (by kernel_rfl) (fun _ h => h.at' (o + 2) (by omega) _ hz2) ?_
      with_reducible refine q_val (.pointer (some ⟨R, 4, none⟩)) (by kernel_rfl) (fun _ _ => by kernel_rfl) ?_
      with_reducible refine q_load 34 (.tmp 41) (.pointer (some ⟨R, 4, none⟩)) (.int .u64 (v (o + 4))) rfl (by kernel_rfl) (by kernel_rfl) (fun _ h => h.rat 4 (by omega)) ?_
      with_reducible refine q_val (.pointer (some ⟨R, 3, none⟩)) (by kernel_rfl) (fun _ _ => by kernel_rfl) ?_
      with_reducible refine q_load 34 (.tmp 43) (.pointer (some ⟨R, 3, none⟩)) (.int .u64 (v (o + 3))) rfl (by kernel_rfl) (by kernel_rfl) (fun _ h => h.rat 3 (by omega)) ?_
      with_reducible refine q_val (.int .u64 (bits .andNot .u64 (v (o + 4)) (v (o + 3)))) (by kernel_rfl) (fun _ _ => by kernel_rfl) ?_
      with_reducible refine q_val (.int .u64 (bits .xor .u64 (v (o + 2)) (bits .andNot .u64 (v (o + 4)) (v (o + 3))))) (by kernel_rfl) (fun _ _ => by kernel_rfl) ?_
      with_reducible refine q_val (.pointer (some ⟨V, o + 2, none⟩)) (by kernel_rfl) (fun _ _ => by kernel_rfl) ?_
      with_reducible refine wpQuiet_nil ?_
      intro w3 hCx
      simp only [Act.put, List.setIfInBounds_toArray, List.set_cons_succ, List.set_cons_zero]
      have ek := kch_of v o 2 4 3 hm (by omega) rfl rfl
      rw [ek]
      clear ek
      have co2 := hCx.cell (o + 2) (by omega)
      have fo2 := frozen_of_row _ _ (o + 2) _ _ hCx.row
      have H4 := Lib.hid (hCx.set (o + 2) (by omega) (kch v (o + 2)))
      rw [kce_next] at H4
      clear hCx
      -- region 3
      go_wp2_with fail
      have hz3 : kce v (o + 3) (o + 3) = v (o + 3) := by unfold kce; rw [if_neg (by omega)]
      refine region_quiet_tail 10 (CMr w V tt tl R (fun j => v (o + j)) (kce v (o + 3))) (by kernel_rfl) (by kernel_rfl) H4.out.drew ?_
      simp only [List.take_succ_cons, List.take_zero, List.drop_succ_cons, List.drop_zero]
      with_reducible refine q_val (.slice (some ⟨V, o, none⟩) 5 (25 - o)) (by kernel_rfl) (fun _ _ => by kernel_rfl) ?_
      with_reducible refine q_val (.pointer (some ⟨V, o + 3, none⟩)) (by kernel_rfl) (fun _ _ => by kernel_rfl) ?_
      with_reducible refine q_load 34 (.tmp 49) (.pointer (some ⟨V, o + 3, none⟩)) (.int .u64 (v (o + 3))) rfl (by kernel_rfl) (by kernel_rfl) (fun _ h => h.at' (o + 3) (by omega) _ hz3) ?_
      with_reducible refine q_val (.pointer (some ⟨R, 0, none⟩)) (by kernel_rfl) (fun _ _ => by kernel_rfl) ?_
      with_reducible refine q_load 34 (.tmp 51) (.pointer (some ⟨R, 0, none⟩)) (.int .u64 (v (o + 0))) rfl (by kernel_rfl) (by kernel_rfl) (fun _ h => h.rat 0 (by omega)) ?_
      with_reducible refine q_val (.pointer (some ⟨R, 4, none⟩)) (by kernel_rfl) (fun _ _ => by kernel_rfl) ?_
      with_reducible refine q_load 34 (.tmp 53) (.pointer (some ⟨R, 4, none⟩)) (.int .u64 (v (o + 4))) rfl (by kernel_rfl) (by kernel_rfl) (fun _ h => h.rat 4 (by omega)) ?_
      with_reducible refine q_val (.int .u64 (bits .andNot .u64 (v (o + 0)) (v (o + 4)))) (by kernel_rfl) (fun _ _ => by kernel_rfl) ?_
      with_reducible refine q_val (.int .u64 (bits .xor .u64 (v (o + 3)) (bits .andNot .u64 (v (o + 0)) (v (o + 4))))) (by kernel_rfl) (fun _ _ => by kernel_rfl) ?_
      with_reducible refine q_val (.pointer (some ⟨V, o + 3, none⟩)) (by kernel_rfl) (fun _ _ => by kernel_rfl) ?_
      with_reducible refine wpQuiet_nil ?_
      intro w4 hCx
      simp only [Act.put, List.setIfInBounds_toArray, List.set_cons_succ, List.set_cons_zero]
      have ek := kch_of v o 3 0 4 hm (by omega) rfl rfl
      rw [ek]
      clear ek
      have co3 := hCx.cell (o + 3) (by omega)
      have fo3 := frozen_of_row _ _ (o + 3) _ _ hCx.row
      have H5 := Lib.hid (hCx.set (o + 3) (by omega) (kch v (o + 3)))
      rw [kce_next] at H5
      clear hCx
      -- region 4
      go_wp2_with fail
      have hz4 : kce v (o + 4) (o + 4) = v (o + 4) := by unfold kce; rw [if_neg (by omega)]
      refine region_quiet_tail 10 (CMr w V tt tl R (fun j => v (o + j)) (kce v (o + 4))) (by kernel_rfl) (by kernel_rfl) H5.out.drew ?_
      simp only [List.take_succ_cons, List.take_zero, List.drop_succ_cons, List.drop_zero]
      with_reducible refine q_val (.slice (some ⟨V, o, none⟩) 5 (25 - o)) (by kernel_rfl) (fun _ _ => by kernel_rfl) ?_
      with_reducible refine q_val (.pointer (some ⟨V, o + 4, none⟩)) (by kernel_rfl) (fun _ _ => by kernel_rfl) ?_
      with_reducible refine q_load 34 (.tmp 59) (.pointer (some ⟨V, o + 4, none⟩)) (.int .u64 (v (o + 4))) rfl (by kernel_rfl) (by kernel_rfl) (fun _ h => h.at' (o + 4) (by omega) _ hz4) ?_
      with_reducible refine q_val (.pointer (some ⟨R, 1, none⟩)) (by kernel_rfl) (fun _ _ => by kernel_rfl) ?_
      with_reducible refine q_load 34 (.tmp 61) (.pointer (some ⟨R, 1, none⟩)) (.int .u64 (v (o + 1))) rfl (by kernel_rfl) (by kernel_rfl) (fun _ h => h.rat 1 (by omega)) ?_
      with_reducible refine q_val (.pointer (some ⟨R, 0, none⟩)) (by kernel_rfl) (fun _ _ => by kernel_rfl) ?_
      with_reducible refine q_load 34 (.tmp 63) (.pointer (some ⟨R, 0, none⟩)) (.int .u64 (v (o + 0))) rfl (by kernel_rfl) (by kernel_rfl) (fun _ h => h.rat 0 (by omega)) ?_
      with_reducible refine q_val (.int .u64 (bits .andNot .u64 (v (o + 1)) (v (o + 0)))) (by kernel_rfl) (fun _ _ => by kernel_rfl) ?_
      with_reducible refine q_val (.int .u64 (bits .xor .u64 (v (o + 4)) (bits .andNot .u64 (v (o + 1)) (v (o + 0))))) (by kernel_rfl) (fun _ _ => by kernel_rfl) ?_
      with_reducible refine q_val (.pointer (some ⟨V, o + 4, none⟩)) (by kernel_rfl) (fun _ _ => by kernel_rfl) ?_
      with_reducible refine wpQuiet_nil ?_
      intro w5 hCx
      simp only [Act.put, List.setIfInBounds_toArray, List.set_cons_succ, List.set_cons_zero]
      have ek := kch_of v o 4 1 0 hm (by omega) rfl rfl
      rw [ek]
      clear ek
      have co4 := hCx.cell (o + 4) (by omega)
      have fo4 := frozen_of_row _ _ (o + 4) _ _ hCx.row
      have H6 := Lib.hid (hCx.set (o + 4) (by omega) (kch v (o + 4)))
      rw [kce_next] at H6
      clear hCx
      go_wp2_with fail
      go_roundw
      case rel => exact ⟨o + 5, by omega, by omega, by go_num, Lib.hid ⟨H6.out.bt, H6.out.row⟩⟩
      case measure => simp [intOf]; omega
    · obtain rfl : o = 25 := by omega
      have hr := H.out.row
      rw [kce_all] at hr
      have HR := Lib.hid (And.intro H.out.bt hr)
      clear hr
      go_wp2_with fail
      go_end0
      exact ⟨rfl, HR.out.1, HR.out.2⟩
end Go.Proofs.YtcmpnnfnkcmpcaaDoor
namespace Go.Proofs.YtcmpnnfnkcmpcaaDoor
open Go.RowKit

def pthT (t : Nat) : Nat := [10, 7, 11, 17, 18, 3, 5, 16, 8, 21, 24, 4, 15, 23, 19, 13, 12, 2, 20, 14, 22, 9, 6, 1].getD t 0
def posT (j : Nat) : Nat := [99, 23, 17, 5, 11, 6, 22, 1, 8, 21, 0, 2, 16, 15, 19, 12, 7, 3, 4, 14, 18, 9, 20, 13, 10].getD j 99
def rcT (t : Nat) : Int := [1, 32898, 9223372036854808714, 9223372039002292224, 32907, 2147483649, 9223372039002292353, 9223372036854808585, 138, 136, 2147516425, 2147483658, 2147516555, 9223372036854775947, 9223372036854808713, 9223372036854808579, 9223372036854808578, 9223372036854775936, 32778, 9223372039002259466, 9223372039002292353, 9223372036854808704, 2147483649, 9223372039002292232].getD t 0
/-- The place of the lane that is carried ahead of the step t. -/
def lanT (t : Nat) : Nat := if t = 0 then 1 else pthT (t - 1)
theorem pth_all : ∀ t, t < 24 → pthT t < 25 ∧ posT (pthT t) = t ∧ ksrc (pthT t) = lanT t ∧ ktrn (pthT t) = (t + 1) * (t + 2) / 2 ∧ lanT t < 25 := by decide +kernel
theorem pos_all : ∀ j, j < 25 → posT j < 24 → pthT (posT j) = j := by decide +kernel
theorem pos_mv : ∀ j, j < 25 → (posT j < 24 ↔ j ≠ 0) := by decide +kernel
theorem pos_of {j t : Nat} (ht : t < 24) (h : posT j = t) : j = pthT t := by
  by_cases hj : j < 25
  · rw [← h]; exact (pos_all j hj (by omega)).symm
  · exfalso
    unfold posT at h
    rw [List.getD_eq_getElem?_getD, List.getElem?_eq_none (by simpa using hj)] at h
    simp at h
    omega
/-- The state behind t moves. -/
def mvD (v : Nat → Int) (t j : Nat) : Int := if posT j < t then rul (ktrn j) (v (ksrc j)) else v j
theorem mvD_next (v : Nat → Int) (t : Nat) (ht : t < 24) : updI (mvD v t) (pthT t) (rul ((t + 1) * (t + 2) / 2) (v (lanT t))) = mvD v (t + 1) := by
  obtain ⟨h1, h2, h3, h4, h5⟩ := pth_all t ht
  funext j
  unfold updI mvD
  by_cases h : j = pthT t
  · subst h; rw [if_pos rfl, h2, if_pos (by omega), h3, h4]
  · rw [if_neg h]
    have hp : posT j ≠ t := fun e => h (pos_of ht e)
    by_cases hq : posT j < t
    · rw [if_pos hq, if_pos (by omega)]
    · rw [if_neg hq, if_neg (by omega)]
theorem mvD_at (v : Nat → Int) (t : Nat) (ht : t < 24) : mvD v t (pthT t) = v (lanT (t + 1)) := by
  obtain ⟨h1, h2, -⟩ := pth_all t ht
  unfold mvD lanT
  rw [h2, if_neg (by omega), if_neg (by omega)]
  rfl
theorem mvD_all (v : Nat → Int) (tl : Array Value) : kr (mvD v 24) tl = kr (kmv v) tl := by
  unfold kr
  rw [ar_congr (fun j hj => show mvD v 24 j = kmv v j by
    unfold mvD kmv
    have h := pos_mv j hj
    by_cases e : j = 0
    · subst e; rw [if_pos rfl, if_neg (by rw [h]; simp)]
    · rw [if_neg e, if_pos (h.2 e)])]
/-- The tables lie as the program lays them. -/
structure KTab (w : World) : Prop where
  pth : ∀ t, t < 24 → w.cell? ⟨2, t, none⟩ = some (.int .i64 (pthT t : Nat))
  rcs : ∀ t, t < 24 → w.cell? ⟨0, t, none⟩ = some (.int .u64 (rcT t))
theorem block_lt_of_cell {w : World} {g o : Nat} {v : Value} (h : w.cell? ⟨g, o, none⟩ = some v) : g < w.heap.size := by
  simpa using World.block_lt_of_cell? w _ h
/-- The block that turns is none of the tables'. -/
def Apt (V : Nat) : Prop := 2 ≠ V ∧ 0 ≠ V
theorem KTab.bt {w w' : World} {V : Nat} (h : KTab w) (hV : Apt V) (hb : Bt V w w') : KTab w' :=
  ⟨fun t ht => (hb.cell (p := ⟨2, t, none⟩) hV.1 (block_lt_of_cell (h.pth t ht))).trans (h.pth t ht), fun t ht => (hb.cell (p := ⟨0, t, none⟩) hV.2 (block_lt_of_cell (h.rcs t ht))).trans (h.rcs t ht)⟩
theorem KTab.below {w w' : World} (h : KTab w) (hb : Below w.heap.size w w') : KTab w' :=
  ⟨fun t ht => (hb.cell (p := ⟨2, t, none⟩) (block_lt_of_cell (h.pth t ht))).trans (h.pth t ht), fun t ht => (hb.cell (p := ⟨0, t, none⟩) (block_lt_of_cell (h.rcs t ht))).trans (h.rcs t ht)⟩
theorem kloadi (g j : Nat) (y : Int) (w : World) (h : w.cell? ⟨g, j, none⟩ = some (.int .i64 y)) : (Instr.loadAt 3 (.pointer (some ⟨g, j, none⟩))).run Tryd.prog w = .ok (.int .i64 y) w := by
  go_simp
theorem ixP (t : Nat) (h : t < 24) (w : World) : (Instr.indexAt 83 (.pointer (some ⟨2, 0, none⟩)) (.int .i64 (t : Nat))).run Tryd.prog w = .ok (.pointer (some ⟨2, t, none⟩)) w := by
  have h0 : (0 : Int) ≤ t := by omega
  have h1 : (t : Int) < 24 := by omega
  go_simp
theorem ixC (t : Nat) (h : t < 24) (w : World) : (Instr.indexAt 71 (.pointer (some ⟨0, 0, none⟩)) (.int .i64 (t : Nat))).run Tryd.prog w = .ok (.pointer (some ⟨0, t, none⟩)) w := by
  have h0 : (0 : Int) ≤ t := by omega
  have h1 : (t : Int) < 24 := by omega
  go_simp
theorem ixV (V p : Nat) (h : p < 25) (w : World) : (Instr.indexAt 44 (.pointer (some ⟨V, 0, none⟩)) (.int .i64 (p : Nat))).run Tryd.prog w = .ok (.pointer (some ⟨V, p, none⟩)) w := by
  have h0 : (0 : Int) ≤ p := by omega
  have h1 : (p : Int) < 25 := by omega
  go_simp
theorem q_v {P : Program} {ops : Array Oper} {C : World → Prop} {Q : Act → Prop} {a : Act} {o : Oper} {rest : List Oper} (s : Sem Value) (v : Value) (hw : Region.wanted o (yielded ops a.tmps) = true) (ho : execOp a.eval o = (do let x ← s; pure (.value x))) (hr : ∀ w, C w → s.run P w = .ok v w) (h : wpQuiet P ops C Q rest (a.put o.dst v)) : wpQuiet P ops C Q (o :: rest) a :=
  q_val v hw (fun w hC => by rw [ho]; simp only [Sem.run_bind, hr w hC, Result.andThen_ok, Sem.run_pure]) h
set_option maxRecDepth 100000 in
set_option maxHeartbeats 4000000 in
-- THE SECOND STEP.
theorem kmoves {V : Nat} {tt : TypeId} {tl : Array Value} {v : Nat → Int} (w : World) (hT : KTab w) (hA : Apt V) (hw : w.heap[V]? = some (.cells (kr v tl) tt (0, 0))) :
    Calls Tryd.prog 40 #[.pointer (some ⟨V, 0, none⟩)] w fun e w' => e = .returned (.tuple #[]) ∧ CP w V tt tl (kmv v) w' := by
  have HT := Lib.hid (And.intro hT hA)
  have H0 := Lib.hid (show CP w V tt tl (mvD v 0) w from ⟨Bt.refl _ _, by rw [show mvD v 0 = v from funext fun j => by unfold mvD; rw [if_neg (by omega)]]; exact hw⟩)
  have c1 : w.cell? ⟨V, 1, none⟩ = some (.int .u64 (v 1)) := (cell_of_row w _ 1 _ _ _ hw).trans (kr_at _ _ _ (by decide))
  clear hw hT hA
  go_enter Tryd.func40, Tryd.ntmps40
  go_wp2_with fail
  go_loopw [2, 3, 10] (fun l b i wr => ∃ t : Nat, t ≤ 24 ∧ l = .int .u64 (v (lanT t)) ∧ b = .int .i64 ((t * (t + 1) / 2 : Nat) : Int) ∧ i = .int .i64 t ∧ Hid (CP w V tt tl (mvD v t) wr)) (fun _ _ i _ => 24 - (intOf i).toNat)
  case atStart => exact ⟨0, by omega, rfl, rfl, rfl, H0⟩
  case round =>
    obtain ⟨t, ht, rfl, rfl, rfl, H⟩ := hrel
    clear H0 c1
    have ht0 : (0 : Int) ≤ t := by omega
    by_cases hlt : t < 24
    · have hlt' : (t : Int) < 24 := by omega
      have hX := Lib.hid (pth_all t hlt)
      obtain ⟨l, hl⟩ : ∃ l, v (lanT t) = l := ⟨_, rfl⟩
      have hbb : t * (t + 1) / 2 ≤ 300 := by
        have h1 : t * (t + 1) ≤ 24 * 25 := Nat.mul_le_mul (by omega) (by omega)
        omega
      have hbn : t * (t + 1) / 2 + (t + 1) = (t + 1) * (t + 2) / 2 := by
        have h1 : (t + 1) * (t + 2) = t * (t + 1) + 2 * (t + 1) := by rw [Nat.mul_comm (t + 1) (t + 2), ← Nat.add_mul]
        omega
      obtain ⟨b, hb⟩ : ∃ b : Nat, t * (t + 1) / 2 = b := ⟨_, rfl⟩
      obtain ⟨b', hb'⟩ : ∃ b : Nat, (t + 1) * (t + 2) / 2 = b := ⟨_, rfl⟩
      rw [hb, hb'] at hbn
      rw [hb] at hbb
      obtain ⟨p, hp⟩ : ∃ p, pthT t = p := ⟨_, rfl⟩
      have hp25 : p < 25 := by rw [← hp]; exact hX.out.1
      have HP := Lib.hid (show mvD v t p = v (lanT (t + 1)) from by rw [← hp]; exact mvD_at v t hlt)
      have HN := Lib.hid (show updI (mvD v t) p (rul b' l) = mvD v (t + 1) from by rw [← hp, ← hb', ← hl]; exact mvD_next v t hlt)
      have HC := Lib.hid (show ∀ wx, CP w V tt tl (mvD v t) wx → wx.cell? ⟨2, t, none⟩ = some (.int .i64 (p : Nat)) from fun wx c => by rw [← hp]; exact (HT.out.1.bt HT.out.2 c.bt).pth t hlt)
      rw [hl, hb]
      have HB := Lib.hid (show (t + 1) * (t + 1 + 1) / 2 = b' from hb')
      have HL := Lib.hid hlt
      clear hl hb hb' hX hp
      have e1 : (b : Int) + ((t : Int) + 1) = (b' : Int) := by omega
      have e2 : IntKind.i64.wrap (b' : Int) = (b' : Int) := by rw [IntKind.wrap_i64]; omega
      have hb4 : b' < 4294967296 := by omega
      obtain ⟨z, hz⟩ : ∃ z, v (lanT (t + 1)) = z := ⟨_, rfl⟩
      rw [hz] at HP
      have HZ := Lib.hid hz
      clear hz
      go_wp2_with fail
      refine wp_region_quiet (C := CP w V tt tl (mvD v t)) (by kernel_rfl) (by kernel_rfl) H.out.drew ?_
      with_reducible refine q_val (.pointer (some ⟨V, 0, none⟩)) (by kernel_rfl) (fun _ _ => by kernel_rfl) ?_
      with_reducible refine q_val (.int .i64 t) (by kernel_rfl) (fun _ _ => by kernel_rfl) ?_
      with_reducible refine q_v (Instr.indexAt 83 (.pointer (some ⟨2, 0, none⟩)) (.int .i64 (t : Nat))) (.pointer (some ⟨2, t, none⟩)) (by kernel_rfl) (by kernel_rfl) (fun w _ => ixP t HL.out w) ?_
      with_reducible refine q_load 3 (.tmp 19) (.pointer (some ⟨2, t, none⟩)) (.int .i64 (p : Nat)) rfl (by kernel_rfl) (by kernel_rfl) (fun _ h => kloadi _ _ _ _ (HC.out _ h)) ?_
      with_reducible refine q_val (.pointer (some ⟨V, 0, none⟩)) (by kernel_rfl) (fun _ _ => by kernel_rfl) ?_
      with_reducible refine q_v (Instr.indexAt 44 (.pointer (some ⟨V, 0, none⟩)) (.int .i64 (p : Nat))) (.pointer (some ⟨V, p, none⟩)) (by kernel_rfl) (by kernel_rfl) (fun w _ => ixV V p hp25 w) ?_
      with_reducible refine q_val (.pointer (some ⟨V, p, none⟩)) (by kernel_rfl) (fun _ _ => by kernel_rfl) ?_
      with_reducible refine wpQuiet_nil ?_
      intro w1 hC1
      clear H
      have H := Lib.hid hC1
      clear hC1
      simp only [Act.put, List.setIfInBounds_toArray, List.set_cons_succ, List.set_cons_zero]
      go_wp2_with fail
      refine region_quiet_tail 9 (CP w V tt tl (mvD v t)) (by kernel_rfl) (by kernel_rfl) H.out.drew ?_
      simp only [List.take_succ_cons, List.take_zero, List.drop_succ_cons, List.drop_zero]
      with_reducible refine q_val (.pointer (some ⟨V, p, none⟩)) (by kernel_rfl) (fun _ _ => by kernel_rfl) ?_
      with_reducible refine q_val (.pointer (some ⟨V, p, none⟩)) (by kernel_rfl) (fun _ _ => by kernel_rfl) ?_
      with_reducible refine q_val (.pointer (some ⟨V, p, none⟩)) (by kernel_rfl) (fun _ _ => by kernel_rfl) ?_
      with_reducible refine q_load 34 (.tmp 25) (.pointer (some ⟨V, p, none⟩)) (.int .u64 z) rfl (by kernel_rfl) (by kernel_rfl) (fun _ h => h.at' p hp25 _ HP.out) ?_
      with_reducible refine q_val (.int .u64 l) (by kernel_rfl) (fun _ _ => by kernel_rfl) ?_
      with_reducible refine q_val (.int .i64 b') (by kernel_rfl) (fun _ _ => by kernel_rfl) ?_
      with_reducible refine q_call 50 #[.int .u64 l, .int .i64 b'] (.int .u64 (rul b' l)) (by kernel_rfl) (fun _ => by kernel_rfl) (fun wx h => (rotl b' hb4 l wx).mono fun e w' hh => ⟨hh.1, by rw [hh.2]; exact h⟩) ?_
      with_reducible refine q_val (.int .u64 z) (by kernel_rfl) (fun _ _ => by kernel_rfl) ?_
      with_reducible refine q_val (.pointer (some ⟨V, p, none⟩)) (by kernel_rfl) (fun _ _ => by kernel_rfl) ?_
      with_reducible refine wpQuiet_nil ?_
      intro w2 hCx
      simp only [Act.put, List.setIfInBounds_toArray, List.set_cons_succ, List.set_cons_zero]
      have co := hCx.cell p hp25
      have fo := frozen_of_row _ _ p _ _ hCx.row
      have H2 := Lib.hid (hCx.set p hp25 (rul b' l))
      rw [HN.out] at H2
      clear hCx H
      go_wp2_with fail
      go_roundw
      case rel => exact ⟨t + 1, by omega, by rw [HZ.out], by rw [HB.out], by go_num, H2⟩
      case measure => simp [intOf]; omega
    · obtain rfl : t = 24 := by omega
      have hr := H.out.row
      rw [mvD_all] at hr
      have HR := Lib.hid (And.intro H.out.bt hr)
      clear hr
      go_wp2_with fail
      go_end0
      exact ⟨rfl, HR.out.1, HR.out.2⟩
set_option maxRecDepth 100000 in
set_option maxHeartbeats 4000000 in
-- ALL ROUNDS.
theorem kperm {V : Nat} {tt : TypeId} {tl : Array Value} {v : Nat → Int} (w : World) (hT : KTab w) (hA : Apt V) (hw : w.heap[V]? = some (.cells (kr v tl) tt (0, 0))) :
    Calls Tryd.prog 27 #[.pointer (some ⟨V, 0, none⟩)] w fun e w' => e = .returned (.tuple #[]) ∧ CP w V tt tl (kpm rcT 24 v) w' := by
  have HT := Lib.hid (And.intro hT hA)
  have H0 := Lib.hid (show CP w V tt tl (kpm rcT 0 v) w from ⟨Bt.refl _ _, hw⟩)
  clear hw hT hA
  go_enter Tryd.func27, Tryd.ntmps27
  go_wp2_with fail
  go_loopw [3] (fun i wr => ∃ t : Nat, t ≤ 24 ∧ i = .int .i64 t ∧ Hid (CP w V tt tl (kpm rcT t v) wr)) (fun i _ => 24 - (intOf i).toNat)
  case atStart => exact ⟨0, by omega, rfl, H0⟩
  case round =>
    obtain ⟨t, ht, rfl, H⟩ := hrel
    clear H0
    have ht0 : (0 : Int) ≤ t := by omega
    by_cases hlt : t < 24
    · have hlt' : (t : Int) < 24 := by omega
      have HL := Lib.hid hlt
      obtain ⟨x, hx⟩ : ∃ x, kpm rcT t v = x := ⟨_, rfl⟩
      rw [hx] at H
      have HX := Lib.hid hx
      clear hx
      go_wp2_with fail
      refine (kmix _ H.out.row).mono ?_
      rintro e u ⟨rfl, h⟩
      have H1 := Lib.hid (show CP w V tt tl (kth x) u from ⟨H.out.bt.trans (Bt.of_kbut h.but), h.row⟩)
      clear H h
      go_wp2_with fail
      refine (kmoves _ (HT.out.1.bt HT.out.2 H1.out.bt) HT.out.2 H1.out.row).mono ?_
      rintro e u2 ⟨rfl, h⟩
      have H2 := Lib.hid (show CP w V tt tl (kmv (kth x)) u2 from ⟨H1.out.bt.trans h.bt, h.row⟩)
      clear H1 h
      go_wp2_with fail
      refine (krows _ H2.out.row).mono ?_
      rintro e u3 ⟨rfl, h⟩
      have H3 := Lib.hid (show CP w V tt tl (kch (kmv (kth x))) u3 from ⟨H2.out.bt.trans h.bt, h.row⟩)
      clear H2 h
      obtain ⟨c, hc⟩ : ∃ c, rcT t = c := ⟨_, rfl⟩
      have HN := Lib.hid (show updI (kch (kmv (kth x))) 0 (bits .xor .u64 (kch (kmv (kth x)) 0) c) = kpm rcT (t + 1) v from by rw [← hc, ← HX.out]; rfl)
      obtain ⟨y, hy⟩ : ∃ y, kch (kmv (kth x)) = y := ⟨_, rfl⟩
      rw [hy] at HN H3
      clear hy
      have HC := Lib.hid (show ∀ wx, CP w V tt tl y wx → wx.cell? ⟨0, t, none⟩ = some (.int .u64 c) from fun wx h => by rw [← hc]; exact (HT.out.1.bt HT.out.2 h.bt).rcs t hlt)
      clear hc
      go_wp2_with fail
      refine region_quiet_tail 10 (CP w V tt tl y) (by kernel_rfl) (by kernel_rfl) H3.out.drew ?_
      simp only [List.take_succ_cons, List.take_zero, List.drop_succ_cons, List.drop_zero]
      with_reducible refine q_val (.pointer (some ⟨V, 0, none⟩)) (by kernel_rfl) (fun _ _ => by kernel_rfl) ?_
      with_reducible refine q_val (.pointer (some ⟨V, 0, none⟩)) (by kernel_rfl) (fun _ _ => by kernel_rfl) ?_
      with_reducible refine q_val (.pointer (some ⟨V, 0, none⟩)) (by kernel_rfl) (fun _ _ => by kernel_rfl) ?_
      with_reducible refine q_load 34 (.tmp 14) (.pointer (some ⟨V, 0, none⟩)) (.int .u64 (y 0)) rfl (by kernel_rfl) (by kernel_rfl) (fun _ h => h.at' 0 (by decide) _ rfl) ?_
      with_reducible refine q_val (.int .i64 t) (by kernel_rfl) (fun _ _ => by kernel_rfl) ?_
      with_reducible refine q_v (Instr.indexAt 71 (.pointer (some ⟨0, 0, none⟩)) (.int .i64 (t : Nat))) (.pointer (some ⟨0, t, none⟩)) (by kernel_rfl) (by kernel_rfl) (fun w _ => ixC t HL.out w) ?_
      with_reducible refine q_load 34 (.tmp 17) (.pointer (some ⟨0, t, none⟩)) (.int .u64 c) rfl (by kernel_rfl) (by kernel_rfl) (fun _ h => kload _ _ _ _ (HC.out _ h)) ?_
      with_reducible refine q_val (.int .u64 (bits .xor .u64 (y 0) c)) (by kernel_rfl) (fun _ _ => by kernel_rfl) ?_
      with_reducible refine q_val (.pointer (some ⟨V, 0, none⟩)) (by kernel_rfl) (fun _ _ => by kernel_rfl) ?_
      with_reducible refine q_val (.pointer (some ⟨V, 0, none⟩)) (by kernel_rfl) (fun _ _ => by kernel_rfl) ?_
      with_reducible refine wpQuiet_nil ?_
      intro w2 hCx
      simp only [Act.put, List.setIfInBounds_toArray, List.set_cons_succ, List.set_cons_zero]
      have co := hCx.cell 0 (by decide)
      have fo := frozen_of_row _ _ 0 _ _ hCx.row
      have H4 := Lib.hid (hCx.set 0 (by decide) (bits .xor .u64 (y 0) c))
      rw [HN.out] at H4
      clear hCx H3
      go_wp2_with fail
      go_roundw
      case rel => exact ⟨t + 1, by omega, by go_num, H4⟩
      case measure => simp [intOf]; omega
    · obtain rfl : t = 24 := by omega
      go_wp2_with fail
      go_end0
      exact ⟨rfl, H.out⟩
end Go.Proofs.YtcmpnnfnkcmpcaaDoor
namespace Go.Proofs.YtcmpnnfnkcmpcaaDoor
open Go.RowKit

set_option maxRecDepth 100000 in
-- WHAT Up COMES TO.
theorem up_any (x : Int) (k : Nat) (hk : k < 4294967296) (w : World) : Calls Tryd.prog 42 #[.int .u64 x, .int .i64 k] w fun e w' => e = .returned (.int .u64 (rul k x)) ∧ w' = w := by
  unfold rul
  have hm : k % 64 < 64 := Nat.mod_lt _ (by decide)
  obtain ⟨s, hs⟩ : ∃ s, k % 64 = s := ⟨_, rfl⟩
  rw [hs] at hm ⊢
  have hk0 : (0 : Int) ≤ k := by omega
  have e1 : (k : Int) % 64 = (s : Int) := by omega
  have e2 : (k : Int).tmod 64 = (s : Int) := by rw [Int.tmod_eq_emod_of_nonneg hk0]; exact e1
  have hs0 : (0 : Int) ≤ s := by omega
  have hs1 : (s : Int) < 64 := by omega
  have hws : IntKind.u64.wrap (s : Int) = (s : Int) := by rw [IntKind.wrap_u64]; omega
  obtain ⟨q, hq⟩ : ∃ q : Nat, (64 : Int) - (s : Int) = (q : Int) := ⟨64 - s, by omega⟩
  have hq2 : 64 - s = q := by omega
  have hwq : IntKind.u64.wrap (q : Int) = (q : Int) := by rw [IntKind.wrap_u64]; omega
  have hq0 : (0 : Int) ≤ q := by omega
  have hq1 : (q : Int) ≤ 64 := by omega
  have HQ := Lib.hid hq2
  clear hs hm hk hq2
  go_enter Tryd.func42, Tryd.ntmps42
  go_wp2
  go_ret
  rw [HQ.out]
  exact ⟨rfl, rfl⟩
def rT (n : Nat) : Nat := [1, 2, 4, 8, 16, 32, 64, 128, 113, 226, 181, 27, 54, 108, 216, 193, 243, 151, 95, 190, 13, 26, 52, 104, 208, 209, 211, 215, 223, 207, 239, 175, 47, 94, 188, 9, 18, 36, 72, 144, 81, 162, 53, 106, 212, 217, 195, 247, 159, 79, 158, 77, 154, 69, 138, 101, 202, 229, 187, 7, 14, 28, 56, 112, 224, 177, 19, 38, 76, 152, 65, 130, 117, 234, 165, 59, 118, 236, 169, 35, 70, 140, 105, 210, 213, 219, 199, 255, 143, 111, 222, 205, 235, 167, 63, 126, 252, 137, 99, 198, 253, 139, 103, 206, 237, 171, 39, 78, 156, 73, 146, 85, 170, 37, 74, 148, 89, 178, 21, 42, 84, 168, 33, 66, 132, 121, 242, 149, 91, 182, 29, 58, 116, 232, 161, 51, 102, 204, 233, 163, 55, 110, 220, 201, 227, 183, 31, 62, 124, 248, 129, 115, 230, 189, 11, 22, 44, 88, 176, 17, 34, 68, 136, 97, 194, 245, 155, 71, 142].getD n 0
def cT (i j : Nat) : Int := (([[0, 1, 1, 1, 1, 1, 1, 1], [0, 0, 2, 2, 130, 32898, 32898, 32898], [0, 0, 2, 10, 138, 32906, 32906, 9223372036854808714], [0, 0, 0, 0, 0, 32768, 2147516416, 9223372039002292224], [0, 1, 3, 11, 139, 32907, 32907, 32907], [0, 1, 1, 1, 1, 1, 2147483649, 2147483649], [0, 1, 1, 1, 129, 32897, 2147516545, 9223372039002292353], [0, 1, 1, 9, 9, 32777, 32777, 9223372036854808585], [0, 0, 2, 10, 138, 138, 138, 138], [0, 0, 0, 8, 136, 136, 136, 136], [0, 1, 1, 9, 9, 32777, 2147516425, 2147516425], [0, 0, 2, 10, 10, 10, 2147483658, 2147483658], [0, 1, 3, 11, 139, 32907, 2147516555, 2147516555], [0, 1, 3, 11, 139, 139, 139, 9223372036854775947], [0, 1, 1, 9, 137, 32905, 32905, 9223372036854808713], [0, 1, 3, 3, 3, 32771, 32771, 9223372036854808579], [0, 0, 2, 2, 2, 32770, 32770, 9223372036854808578], [0, 0, 0, 0, 128, 128, 128, 9223372036854775936], [0, 0, 2, 10, 10, 32778, 32778, 32778], [0, 0, 2, 10, 10, 10, 2147483658, 9223372039002259466], [0, 1, 1, 1, 129, 32897, 2147516545, 9223372039002292353], [0, 0, 0, 0, 128, 32896, 32896, 9223372036854808704], [0, 1, 1, 1, 1, 1, 2147483649, 2147483649], [0, 0, 0, 8, 8, 32776, 2147516424, 9223372039002292232]] : List (List Int)).getD i []).getD j 0
theorem cT_7 : ∀ i, i < 24 → cT i 7 = rcT i := by decide +kernel
theorem cT_0 : ∀ i, i < 24 → cT i 0 = 0 := by decide +kernel
theorem rT_lt : ∀ n, n < 169 → rT n < 256 := by decide +kernel
theorem rT_next : ∀ n, n < 168 → (2 * rT n < 256 → rT (n + 1) = 2 * rT n) ∧ (256 ≤ 2 * rT n → bits .xor .i64 ((2 * rT n - 256 : Nat) : Int) 113 = ((rT (n + 1) : Nat) : Int)) := by decide +kernel
theorem cT_next : ∀ i, i < 24 → ∀ j, j < 7 → (rT (7 * i + j) % 2 = 1 → bits .xor .u64 (cT i j) (2 ^ (2 ^ j - 1)) = cT i (j + 1)) ∧ (rT (7 * i + j) % 2 = 0 → cT i (j + 1) = cT i j) := by decide +kernel
def pi64 (f : Nat → Int) (n : Nat) : List Value := (List.range n).map fun j => .int .u64 (f j)
theorem pi64_len (f : Nat → Int) (n : Nat) : (pi64 f n).length = n := by simp [pi64]
theorem pi64_at (f : Nat → Int) (n j : Nat) (h : j < n) : (pi64 f n)[j]? = some (.int .u64 (f j)) := by simp [pi64, h]
theorem pi64_snoc (f : Nat → Int) (n : Nat) (z : Int) (hx : f n = z) : pi64 f n ++ [.int .u64 z] = pi64 f (n + 1) := by
  rw [← hx]
  unfold pi64
  rw [List.range_succ, List.map_append]
  rfl
theorem infoU64 : (Tryd.prog.info? 34).map (fun i => (i.zero, i.size, i.bytes)) = some (some (.int .u64 0), 1, 8) := by kernel_rfl
theorem info_partsI {P : Program} {t : TypeId} {z : Value} {s b : Nat} (h : (P.info? t).map (fun i => (i.zero, i.size, i.bytes)) = some (some z, s, b)) : ∃ i, P.info? t = some i ∧ i.zero = some z ∧ i.size = s ∧ i.bytes = b := by
  cases hq : P.info? t with
  | none => rw [hq] at h; cases h
  | some i =>
    rw [hq] at h
    simp at h
    exact ⟨i, rfl, h.1, h.2.1, h.2.2⟩
set_option maxRecDepth 100000 in
set_option maxHeartbeats 4000000 in
-- WHAT Constants COMES TO.
theorem consts_any (w : World) : Calls Tryd.prog 28 #[] w fun e w' => ∃ g c, e = .returned (.slice (some ⟨g, 0, none⟩) 24 c) ∧ w'.ownsRow w.heap.size 34 1 (.slice (some ⟨g, 0, none⟩) 24 c) 24 (pi64 rcT 24) ∧ Below w.heap.size w w' := by
  obtain ⟨i0, hi, hz0, hz1, hz2⟩ := info_partsI infoU64
  go_enter Tryd.func28, Tryd.ntmps28
  go_wp2_with fail
  go_loopw [1, 2, 3] (fun v r i wr => ∃ k g q : Nat, k ≤ 24 ∧ i = .int .i64 k ∧ r = .int .i64 (rT (7 * k) : Nat) ∧ v = .slice (some ⟨g, 0, none⟩) k q ∧ Hid (wr.ownsRow w.heap.size 34 1 v k (pi64 rcT k) ∧ Below w.heap.size w wr)) (fun _ _ i _ => 24 - (intOf i).toNat)
  case atStart =>
    refine ⟨0, _, _, by omega, rfl, by kernel_rfl, rfl, Lib.hid ⟨?_, by go_grown⟩⟩
    have h1 := World.ownsRow_made (base := w.heap.size) (e := 34) (size := 1) w #[] 0 (by simp) (by decide) (by simp)
    simpa [pi64] using h1
  case round =>
    obtain ⟨k, g, q, hk, rfl, rfl, rfl, H⟩ := hrel
    have hk0 : (0 : Int) ≤ k := by omega
    by_cases hlt : k < 24
    · have hlt' : (k : Int) < 24 := by omega
      have HK := Lib.hid hlt
      go_wp2_with fail
      go_loopw [2, 4, 5] (fun r c j wi => ∃ n : Nat, n ≤ 7 ∧ j = .int .i64 n ∧ r = .int .i64 (rT (7 * k + n) : Nat) ∧ c = .int .u64 (cT k n) ∧ Hid (wi = wr)) (fun _ _ j _ => 7 - (intOf j).toNat)
      case atStart => exact ⟨0, by omega, rfl, rfl, by rw [cT_0 k HK.out], Lib.hid rfl⟩
      case round =>
        obtain ⟨n, hn, rfl, rfl, rfl, HW⟩ := hrel
        have hn0 : (0 : Int) ≤ n := by omega
        by_cases hn7 : n < 7
        · have hn7' : (n : Int) < 7 := by omega
          have HN := Lib.hid (And.intro (rT_lt (7 * k + n) (by omega)) (And.intro (rT_next (7 * k + n) (by omega)) (cT_next k hlt n hn7)))
          obtain ⟨r, hr⟩ : ∃ r, rT (7 * k + n) = r := ⟨_, rfl⟩
          obtain ⟨r', hr'⟩ : ∃ r, rT (7 * k + n + 1) = r := ⟨_, rfl⟩
          obtain ⟨c, hc⟩ : ∃ r, cT k n = r := ⟨_, rfl⟩
          obtain ⟨c', hc'⟩ : ∃ r, cT k (n + 1) = r := ⟨_, rfl⟩
          rw [hr, hr', hc, hc'] at HN
          have HR := Lib.hid (show rT (7 * k + (n + 1)) = r' ∧ cT k (n + 1) = c' from ⟨hr', hc'⟩)
          rw [hr, hc]
          clear hr hr' hc hc'
          have hr0 : (0 : Int) ≤ r := by omega
          have hr1 : (r : Int) < 256 := by have := HN.out.1; omega
          obtain ⟨d, hd⟩ : ∃ d : Nat, 2 * (r : Int) = (d : Int) := ⟨2 * r, by omega⟩
          have hd0 : (0 : Int) ≤ d := by omega
          have hd1 : (d : Int) < 512 := by omega
          obtain ⟨p, hp⟩ : ∃ p : Nat, (r : Int) % 2 = (p : Int) := ⟨r % 2, by omega⟩
          have hp2 : (r : Int).tmod 2 = (p : Int) := by rw [Int.tmod_eq_emod_of_nonneg hr0]; exact hp
          have hfin : IntKind.u64.wrap (2 ^ min (IntKind.u64.wrap (IntKind.u64.wrap (2 ^ n) - 1)).toNat 64) = (2 : Int) ^ (2 ^ n - 1) := by
            have hq : n = 0 ∨ n = 1 ∨ n = 2 ∨ n = 3 ∨ n = 4 ∨ n = 5 ∨ n = 6 := by omega
            rcases hq with rfl | rfl | rfl | rfl | rfl | rfl | rfl <;> decide +kernel
          have hwn : IntKind.u64.wrap (n : Int) = (n : Int) := by rw [IntKind.wrap_u64]; omega
          obtain ⟨y3, hy3⟩ : ∃ y : Int, 2 ^ (2 ^ n - 1) = y := ⟨_, rfl⟩
          rw [hy3] at HN hfin
          have HF := Lib.hid hfin
          clear hy3 hfin
          by_cases ho : p = 1
          · have ht : ((p : Int) == 1) = true := by simp [ho]
            have HCE := Lib.hid (show bits .xor .u64 c y3 = c' from HN.out.2.2.1 (by omega))
            by_cases hg : 256 ≤ d
            · have hg' : (256 : Int) ≤ d := by omega
              obtain ⟨m, hm⟩ : ∃ m : Nat, (d : Int) % 256 = (m : Int) := ⟨d - 256, by omega⟩
              have hm2 : (d : Int).tmod 256 = (m : Int) := by rw [Int.tmod_eq_emod_of_nonneg hd0]; exact hm
              have hxx : bits .xor .i64 (m : Int) 113 = (r' : Int) := by
                have h1 := HN.out.2.1.2 (by omega)
                rwa [show 2 * r - 256 = m by omega] at h1
              go_wp2_with fail
              go_roundw
              case rel => exact ⟨n + 1, by omega, by go_num, by rw [HR.out.1], by rw [HR.out.2, HF.out, HCE.out], HW⟩
              case measure => simp [intOf]; omega
            · have hg' : ¬ (256 : Int) ≤ d := by omega
              have hdr : (d : Int) = (r' : Int) := by have := HN.out.2.1.1 (by omega); omega
              go_wp2_with fail
              go_roundw
              case rel => exact ⟨n + 1, by omega, by go_num, by rw [HR.out.1], by rw [HR.out.2, HF.out, HCE.out], HW⟩
              case measure => simp [intOf]; omega
          · have ht : ((p : Int) == 1) = false := by simp; omega
            have hce : c' = c := HN.out.2.2.2 (by omega)
            subst hce
            by_cases hg : 256 ≤ d
            · have hg' : (256 : Int) ≤ d := by omega
              obtain ⟨m, hm⟩ : ∃ m : Nat, (d : Int) % 256 = (m : Int) := ⟨d - 256, by omega⟩
              have hm2 : (d : Int).tmod 256 = (m : Int) := by rw [Int.tmod_eq_emod_of_nonneg hd0]; exact hm
              have hxx : bits .xor .i64 (m : Int) 113 = (r' : Int) := by
                have h1 := HN.out.2.1.2 (by omega)
                rwa [show 2 * r - 256 = m by omega] at h1
              go_wp2_with fail
              go_roundw
              case rel => exact ⟨n + 1, by omega, by go_num, by rw [HR.out.1], by rw [HR.out.2], HW⟩
              case measure => simp [intOf]; omega
            · have hg' : ¬ (256 : Int) ≤ d := by omega
              have hdr : (d : Int) = (r' : Int) := by have := HN.out.2.1.1 (by omega); omega
              go_wp2_with fail
              go_roundw
              case rel => exact ⟨n + 1, by omega, by go_num, by rw [HR.out.1], by rw [HR.out.2], HW⟩
              case measure => simp [intOf]; omega
        · obtain rfl : n = 7 := by omega
          obtain rfl := HW.out
          have hbs : w.heap.size ≤ wr.heap.size := H.out.2.size
          have hc7 := cT_7 k HK.out
          rw [hc7]
          obtain ⟨c, hc⟩ : ∃ c, rcT k = c := ⟨_, rfl⟩
          rw [hc]
          obtain ⟨r, hr⟩ : ∃ r, rT (7 * k + 7) = r := ⟨_, rfl⟩
          rw [hr]
          have HR := Lib.hid (show rT (7 * (k + 1)) = r from hr)
          have HC := Lib.hid hc
          clear hc7 hc hr HW
          go_wp2_with (at_builtin; refine wpList_append_lies _ rfl _ _ 50 rfl w.heap.size 34 i0 (.int .u64 0) 1 8 Tryd.underlying50 hi hz0 hz1 hz2 rfl (by decide) _ k (pi64 rcT k) rfl (World.ownsRow.alloc H.out.1 _) ⟨wr.heap.size, 0, none⟩ 1 1 [.int .u64 c] rfl rfl (cell_one_new _ _ _) (by intro u hu; simp at hu; subst hu; rfl) (by omega) (by unfold maxLen; omega) (by omega) (by simp; omega) (wr.heap.size + 1) (by simp) ?_; intro g2 c2 w3 hown3 hgrow hat hlt3)
          have hb3 : Below w.heap.size w w3 := (H.out.2.alloc (by omega) _).grown hgrow (by simp; omega) (fun j hj => (H.out.1.lt j hj).1)
          rw [pi64_snoc rcT k c HC.out] at hown3
          have HQ := Lib.hid (And.intro hown3 hb3)
          clear hgrow hat hlt3 hown3 hb3 H
          go_roundw
          case rel => exact ⟨k + 1, g2, c2, by omega, by go_num, by rw [HR.out], rfl, HQ⟩
          case measure => simp [intOf]; omega
    · obtain rfl : k = 24 := by omega
      go_wp2_with fail
      go_ret
      exact ⟨g, q, rfl, H.out⟩
end Go.Proofs.YtcmpnnfnkcmpcaaDoor
namespace Go.Proofs.YtcmpnnfnkcmpcaaDoor
open Go.RowKit

/-- The state turned about: what the cell k of the reference's array holds. -/
def tp (v : Nat → Int) (k : Nat) : Int := v (k / 5 + 5 * (k % 5))
theorem tp_at (v : Nat → Int) {x y : Nat} (hy : y < 5) : tp v (5 * x + y) = v (x + 5 * y) := by
  unfold tp
  rw [show (5 * x + y) / 5 = x by omega, show (5 * x + y) % 5 = y by omega]
theorem tp_set (v : Nat → Int) {x y : Nat} (hx : x < 5) (hy : y < 5) (z : Int) : (ar .u64 25 (tp v)).setIfInBounds (5 * x + y) (.int .u64 z) = ar .u64 25 (tp (updI v (x + 5 * y) z)) := by
  rw [ar_set _ _ _ _ _ (by omega)]
  refine ar_congr fun j hj => ?_
  show (if j = 5 * x + y then z else v (j / 5 + 5 * (j % 5))) = (if j / 5 + 5 * (j % 5) = x + 5 * y then z else v (j / 5 + 5 * (j % 5)))
  by_cases h : j = 5 * x + y
  · rw [if_pos h, if_pos (by omega)]
  · rw [if_neg h, if_neg (by omega)]
theorem tp_congr {v u : Nat → Int} (h : ∀ i, i < 25 → v i = u i) : ar .u64 25 (tp v) = ar .u64 25 (tp u) :=
  ar_congr fun j hj => h _ (by omega)
/-- The column x's sum behind y rows. -/
def cpt (v : Nat → Int) (x : Nat) : Nat → Int
  | 0 => 0
  | y + 1 => bits .xor .u64 (cpt v x y) (v (x + 5 * y))
def cD (v : Nat → Int) (x y j : Nat) : Int := if j < x then cpt v j 5 else if j = x then cpt v x y else 0
theorem cD_next (v : Nat → Int) (x y : Nat) : updI (cD v x y) x (bits .xor .u64 (cD v x y x) (v (x + 5 * y))) = cD v x (y + 1) := by
  funext j
  unfold updI cD
  by_cases h : j = x
  · subst h; rw [if_pos rfl, if_neg (by omega), if_pos rfl, if_neg (by omega), if_pos rfl]; rfl
  · rw [if_neg h, if_neg h, if_neg h]
theorem cD_row (v : Nat → Int) (x : Nat) : cD v x 5 = cD v (x + 1) 0 := by
  funext j
  unfold cD
  by_cases h : j < x
  · rw [if_pos h, if_pos (by omega)]
  · rw [if_neg h]
    by_cases h2 : j = x
    · subst h2; rw [if_pos rfl, if_pos (by omega)]
    · rw [if_neg h2, if_neg (by omega)]
      by_cases h3 : j = x + 1
      · rw [if_pos h3]; rfl
      · rw [if_neg h3]
theorem xor_0 {a : Int} (h : 0 ≤ a ∧ a < 18446744073709551616) : bits .xor .u64 0 a = a := by
  rw [kxor, IntKind.wrap_u64, show ((0 : Int) % 18446744073709551616).toNat = 0 from rfl, Nat.zero_xor]
  omega
theorem cpt_5 (v : Nat → Int) (x : Nat) (h : 0 ≤ v x ∧ v x < 18446744073709551616) : cpt v x 5 = kcl v x := by
  unfold kcl cpt cpt cpt cpt cpt cpt
  rw [Nat.mul_zero, Nat.add_zero, xor_0 h]
theorem xor_asc (a b c : Int) : bits .xor .u64 (bits .xor .u64 a b) c = bits .xor .u64 a (bits .xor .u64 b c) := by
  refine bi_inj (kxor_rng _ _) (kxor_rng _ _) fun z hz => ?_
  simp only [bi_xor]
  cases bi a z <;> cases bi b z <;> cases bi c z <;> rfl
/-- The state while columns are laid over it: the first x columns, and y lanes of the next. -/
def tD (v : Nat → Int) (x y j : Nat) : Int := if j % 5 < x ∨ j % 5 = x ∧ j / 5 < y then kth v j else v j
theorem tD_next (v : Nat → Int) {x y : Nat} (hx : x < 5) : ar .u64 25 (tp (updI (tD v x y) (x + 5 * y) (kth v (x + 5 * y)))) = ar .u64 25 (tp (tD v x (y + 1))) := by
  refine tp_congr fun j hj => ?_
  unfold updI tD
  by_cases h : j = x + 5 * y
  · subst h; rw [if_pos rfl, if_pos (by omega)]
  · rw [if_neg h]
    by_cases h2 : j % 5 < x ∨ j % 5 = x ∧ j / 5 < y
    · rw [if_pos h2, if_pos (by omega)]
    · rw [if_neg h2, if_neg (by omega)]
theorem tD_row (v : Nat → Int) (x : Nat) : ar .u64 25 (tp (tD v x 5)) = ar .u64 25 (tp (tD v (x + 1) 0)) := by
  refine tp_congr fun j hj => ?_
  unfold tD
  by_cases h : j % 5 < x + 1
  · rw [if_pos (by omega), if_pos (by omega)]
  · rw [if_neg (by omega), if_neg (by omega)]
theorem tD_0 (v : Nat → Int) : ar .u64 25 (tp (tD v 0 0)) = ar .u64 25 (tp v) := tp_congr fun j hj => by unfold tD; rw [if_neg (by omega)]
theorem tD_5 (v : Nat → Int) : ar .u64 25 (tp (tD v 5 0)) = ar .u64 25 (tp (kth v)) := tp_congr fun j hj => by unfold tD; rw [if_pos (by omega)]
theorem tD_at (v : Nat → Int) (x y : Nat) (hx : x < 5) : tD v x y (x + 5 * y) = v (x + 5 * y) := by unfold tD; rw [if_neg (by omega)]
theorem kth_of (v : Nat → Int) (x y : Nat) (hx : x < 5) (hy : y < 5) : bits .xor .u64 (bits .xor .u64 (v (x + 5 * y)) (kcl v ((x + 4) % 5))) (rul 1 (kcl v ((x + 1) % 5))) = kth v (x + 5 * y) := by
  unfold kth kds
  rw [if_pos (by omega), xor_asc, show (x + 5 * y) % 5 = x by omega]
/-- The moved state while it is made. -/
def mB (v : Nat → Int) (t i : Nat) : Int := if posT i < t then rul (ktrn i) (v (ksrc i)) else if i = 0 then v 0 else 0
theorem mB_next (v : Nat → Int) (t : Nat) (ht : t < 24) : updI (mB v t) (pthT t) (rul ((t + 1) * (t + 2) / 2) (v (lanT t))) = mB v (t + 1) := by
  obtain ⟨h1, h2, h3, h4, h5⟩ := pth_all t ht
  funext j
  unfold updI mB
  by_cases h : j = pthT t
  · subst h; rw [if_pos rfl, h2, if_pos (by omega), h3, h4]
  · rw [if_neg h]
    have hp : posT j ≠ t := fun e => h (pos_of ht e)
    by_cases hq : posT j < t
    · rw [if_pos hq, if_pos (by omega)]
    · rw [if_neg hq, if_neg (show ¬ posT j < t + 1 by omega)]
theorem mB_all (v : Nat → Int) : ar .u64 25 (tp (mB v 24)) = ar .u64 25 (tp (kmv v)) := tp_congr fun j hj => by
  unfold mB kmv
  have h := pos_mv j hj
  by_cases e : j = 0
  · subst e; rw [if_pos rfl, if_neg (by rw [h]; simp), if_pos rfl]
  · rw [if_pos (h.2 e), if_neg e]
theorem lan_xy : ∀ t, t < 24 → lanT t % 5 < 5 ∧ lanT t / 5 < 5 ∧ pthT t = lanT t / 5 + 5 * ((2 * (lanT t % 5) + 3 * (lanT t / 5)) % 5) ∧ lanT (t + 1) % 5 = lanT t / 5 ∧ lanT (t + 1) / 5 = (2 * (lanT t % 5) + 3 * (lanT t / 5)) % 5 := by decide +kernel
theorem not_and (a b : Int) : bits .and .u64 (bits .xor .u64 IntKind.u64.max a) b = bits .andNot .u64 b a := by
  have hm : ∀ z, z < 64 → bi IntKind.u64.max z = true := by decide +kernel
  obtain ⟨X, hX, e, h⟩ := kandnot b a
  have hand : bits .and .u64 (bits .xor .u64 IntKind.u64.max a) b = IntKind.u64.wrap (((bits .xor .u64 IntKind.u64.max a % 18446744073709551616).toNat &&& (b % 18446744073709551616).toNat : Nat) : Int) := by
    unfold bits
    simp
    rfl
  refine bi_inj (by rw [hand, IntKind.wrap_u64]; omega) (by omega) fun z hz => ?_
  rw [bi_andnot _ _ _ hz, hand]
  have h1 := bi_xor IntKind.u64.max a z
  rw [hm z hz] at h1
  unfold bi at h1 ⊢
  rw [kwrap _ (Nat.lt_of_le_of_lt Nat.and_le_right (klt b)), Nat.testBit_and, h1]
  cases (a % 18446744073709551616).toNat.testBit z <;> cases (b % 18446744073709551616).toNat.testBit z <;> rfl
theorem kch_of2 (v : Nat → Int) (x y : Nat) (hx : x < 5) : bits .xor .u64 (v (x + 5 * y)) (bits .and .u64 (bits .xor .u64 IntKind.u64.max (v ((x + 1) % 5 + 5 * y))) (v ((x + 2) % 5 + 5 * y))) = kch v (x + 5 * y) := by
  unfold kch
  rw [not_and, show (x + 5 * y) % 5 = x by omega, show (x + 5 * y) / 5 = y by omega]
/-- Lanes of u once the first m are mixed over v. -/
def cE (u v : Nat → Int) (m j : Nat) : Int := if j < m then kch u j else v j
theorem cE_next (u v : Nat → Int) (m : Nat) : updI (cE u v m) m (kch u m) = cE u v (m + 1) := by
  funext j
  unfold updI cE
  by_cases h : j = m
  · subst h; rw [if_pos rfl, if_pos (by omega)]
  · rw [if_neg h]
    by_cases h2 : j < m
    · rw [if_pos h2, if_pos (by omega)]
    · rw [if_neg h2, if_neg (by omega)]
theorem cE_0 (u v : Nat → Int) : cE u v 0 = v := funext fun j => by unfold cE; rw [if_neg (by omega)]
theorem cE_25 (u v : Nat → Int) : ar .u64 25 (tp (cE u v 25)) = ar .u64 25 (tp (kch u)) := tp_congr fun j hj => by unfold cE; rw [if_pos hj]
theorem z25_row : ar .u64 25 (tp fun _ => 0) = #[.int .u64 0, .int .u64 0, .int .u64 0, .int .u64 0, .int .u64 0, .int .u64 0, .int .u64 0, .int .u64 0, .int .u64 0, .int .u64 0, .int .u64 0, .int .u64 0, .int .u64 0, .int .u64 0, .int .u64 0, .int .u64 0, .int .u64 0, .int .u64 0, .int .u64 0, .int .u64 0, .int .u64 0, .int .u64 0, .int .u64 0, .int .u64 0, .int .u64 0] := by kernel_rfl
theorem z5_0 (v : Nat → Int) : ar .u64 5 (cD v 0 0) = #[.int .u64 0, .int .u64 0, .int .u64 0, .int .u64 0, .int .u64 0] := by
  rw [ar_congr (fun j _ => show cD v 0 0 j = (fun _ => (0 : Int)) j by
    unfold cD
    rw [if_neg (by omega)]
    by_cases h : j = 0
    · rw [if_pos h]; rfl
    · rw [if_neg h])]
  kernel_rfl
theorem ix25 (B x : Nat) (h : x < 5) (w : World) : (Instr.indexAt 49 (.pointer (some ⟨B, 0, none⟩)) (.int .i64 (x : Nat))).run Tryd.prog w = .ok (.pointer (some ⟨B, 5 * x, none⟩)) w := by
  have h0 : (0 : Int) ≤ x := by omega
  have h1 : (x : Int) < 5 := by omega
  go_simp
theorem ix5 (B o y : Nat) (h : y < 5) (w : World) : (Instr.indexAt 48 (.pointer (some ⟨B, o, none⟩)) (.int .i64 (y : Nat))).run Tryd.prog w = .ok (.pointer (some ⟨B, o + y, none⟩)) w := by
  have h0 : (0 : Int) ≤ y := by omega
  have h1 : (y : Int) < 5 := by omega
  go_simp
theorem ix5z (B y : Nat) (h : y < 5) (w : World) : (Instr.indexAt 48 (.pointer (some ⟨B, 0, none⟩)) (.int .i64 (y : Nat))).run Tryd.prog w = .ok (.pointer (some ⟨B, y, none⟩)) w := by
  have h1 := ix5 B 0 y h w
  rwa [Nat.zero_add] at h1
/-- The worlds of a round: the state at S, what it answers at S + 1, the columns at S + 2. -/
structure CQ (w : World) (v c : Nat → Int) (wx : World) : Prop where
  old : Below w.heap.size w wx
  r0 : wx.heap[w.heap.size]? = some (.cells (ar .u64 25 (tp v)) 49 (0, 0))
  r1 : wx.heap[w.heap.size + 1]? = some (.cells (ar .u64 25 (tp fun _ => 0)) 49 (0, 0))
  r2 : wx.heap[w.heap.size + 1 + 1]? = some (.cells (ar .u64 5 c) 48 (0, 0))
section
variable {w wx : World} {v c : Nat → Int}
theorem CQ.drew (h : CQ w v c wx) : CQ w v c wx.drew := ⟨h.old.drew, h.r0, h.r1, h.r2⟩
theorem CQ.lda (h : CQ w v c wx) (x y : Nat) (hx : x < 5) (hy : y < 5) (z : Int) (hz : v (x + 5 * y) = z) : (Instr.loadAt 34 (.pointer (some ⟨w.heap.size, 5 * x + y, none⟩))).run Tryd.prog wx = .ok (.int .u64 z) wx :=
  kload _ _ _ _ (by rw [← hz, ← tp_at v hy]; exact (cell_of_row wx _ _ _ _ _ h.r0).trans (ar_at _ _ _ _ (by omega)))
theorem CQ.ldc (h : CQ w v c wx) (x : Nat) (hx : x < 5) (z : Int) (hz : c x = z) : (Instr.loadAt 34 (.pointer (some ⟨w.heap.size + 1 + 1, x, none⟩))).run Tryd.prog wx = .ok (.int .u64 z) wx :=
  kload _ _ _ _ (by rw [← hz]; exact (cell_of_row wx _ _ _ _ _ h.r2).trans (ar_at _ _ _ _ (by omega)))
theorem CQ.setc (h : CQ w v c wx) (x : Nat) (hx : x < 5) (z : Int) : CQ w v (updI c x z) (wx.setCell ⟨w.heap.size + 1 + 1, x, none⟩ (.int .u64 z)) :=
  ⟨h.old.setCell (by show w.heap.size ≤ w.heap.size + 1 + 1; omega) _, (heap_setCell_other _ _ _ _ (by show w.heap.size ≠ w.heap.size + 1 + 1; omega)).trans h.r0, (heap_setCell_other _ _ _ _ (by show w.heap.size + 1 ≠ w.heap.size + 1 + 1; omega)).trans h.r1, (heap_setCell_same _ _ _ _ _ _ h.r2).trans (by rw [ar_set _ _ _ _ _ hx])⟩
end
/-- And the moved state at S + 3. -/
structure CQ3 (w : World) (v c b : Nat → Int) (wx : World) : Prop where
  q : CQ w v c wx
  r3 : wx.heap[w.heap.size + 1 + 1 + 1]? = some (.cells (ar .u64 25 (tp b)) 49 (0, 0))
section
variable {w wx : World} {v c b : Nat → Int}
theorem CQ3.drew (h : CQ3 w v c b wx) : CQ3 w v c b wx.drew := ⟨h.q.drew, h.r3⟩
theorem CQ3.ldb (h : CQ3 w v c b wx) (x y : Nat) (hx : x < 5) (hy : y < 5) (z : Int) (hz : b (x + 5 * y) = z) : (Instr.loadAt 34 (.pointer (some ⟨w.heap.size + 1 + 1 + 1, 5 * x + y, none⟩))).run Tryd.prog wx = .ok (.int .u64 z) wx :=
  kload _ _ _ _ (by rw [← hz, ← tp_at b hy]; exact (cell_of_row wx _ _ _ _ _ h.r3).trans (ar_at _ _ _ _ (by omega)))
theorem CQ3.seta (h : CQ3 w v c b wx) (x y : Nat) (hx : x < 5) (hy : y < 5) (z : Int) : CQ3 w (updI v (x + 5 * y) z) c b (wx.setCell ⟨w.heap.size, 5 * x + y, none⟩ (.int .u64 z)) :=
  ⟨⟨h.q.old.setCell (Nat.le_refl _) _, (heap_setCell_same _ _ _ _ _ _ h.q.r0).trans (by rw [tp_set v hx hy]), (heap_setCell_other _ _ _ _ (by show w.heap.size + 1 ≠ w.heap.size; omega)).trans h.q.r1, (heap_setCell_other _ _ _ _ (by show w.heap.size + 1 + 1 ≠ w.heap.size; omega)).trans h.q.r2⟩,
    (heap_setCell_other _ _ _ _ (by show w.heap.size + 1 + 1 + 1 ≠ w.heap.size; omega)).trans h.r3⟩
theorem CQ3.setb (h : CQ3 w v c b wx) (x y : Nat) (hx : x < 5) (hy : y < 5) (z : Int) : CQ3 w v c (updI b (x + 5 * y) z) (wx.setCell ⟨w.heap.size + 1 + 1 + 1, 5 * x + y, none⟩ (.int .u64 z)) :=
  ⟨⟨h.q.old.setCell (by show w.heap.size ≤ w.heap.size + 1 + 1 + 1; omega) _, (heap_setCell_other _ _ _ _ (by show w.heap.size ≠ w.heap.size + 1 + 1 + 1; omega)).trans h.q.r0, (heap_setCell_other _ _ _ _ (by show w.heap.size + 1 ≠ w.heap.size + 1 + 1 + 1; omega)).trans h.q.r1, (heap_setCell_other _ _ _ _ (by show w.heap.size + 1 + 1 ≠ w.heap.size + 1 + 1 + 1; omega)).trans h.q.r2⟩,
    (heap_setCell_same _ _ _ _ _ _ h.r3).trans (by rw [tp_set b hx hy])⟩
theorem CQ3.to (h : CQ3 w v c b wx) {u : Nat → Int} (e : ar .u64 25 (tp v) = ar .u64 25 (tp u)) : CQ3 w u c b wx := ⟨⟨h.q.old, by rw [← e]; exact h.q.r0, h.q.r1, h.q.r2⟩, h.r3⟩
theorem CQ3.tob (h : CQ3 w v c b wx) {u : Nat → Int} (e : ar .u64 25 (tp b) = ar .u64 25 (tp u)) : CQ3 w v c u wx := ⟨h.q, by rw [← e]; exact h.r3⟩
end
theorem info25 : (Tryd.prog.info? 49).map (·.size) = some 25 := by kernel_rfl
theorem info5q : (Tryd.prog.info? 48).map (·.size) = some 5 := by kernel_rfl
theorem krr_start (w : World) (v : Nat → Int) : CQ w v (cD v 0 0) (((w.alloc (.cells (ar .u64 25 (tp v)) 49)).alloc (.cells #[.int .u64 0, .int .u64 0, .int .u64 0, .int .u64 0, .int .u64 0, .int .u64 0, .int .u64 0, .int .u64 0, .int .u64 0, .int .u64 0, .int .u64 0, .int .u64 0, .int .u64 0, .int .u64 0, .int .u64 0, .int .u64 0, .int .u64 0, .int .u64 0, .int .u64 0, .int .u64 0, .int .u64 0, .int .u64 0, .int .u64 0, .int .u64 0, .int .u64 0] 49)).alloc (.cells #[.int .u64 0, .int .u64 0, .int .u64 0, .int .u64 0, .int .u64 0] 48)) := by
  have h := heap3 w (.cells (ar .u64 25 (tp v)) 49) (.cells #[.int .u64 0, .int .u64 0, .int .u64 0, .int .u64 0, .int .u64 0, .int .u64 0, .int .u64 0, .int .u64 0, .int .u64 0, .int .u64 0, .int .u64 0, .int .u64 0, .int .u64 0, .int .u64 0, .int .u64 0, .int .u64 0, .int .u64 0, .int .u64 0, .int .u64 0, .int .u64 0, .int .u64 0, .int .u64 0, .int .u64 0, .int .u64 0, .int .u64 0] 49) (.cells #[.int .u64 0, .int .u64 0, .int .u64 0, .int .u64 0, .int .u64 0] 48)
  exact ⟨by go_grown, h.1, by rw [z25_row]; exact h.2.1, by rw [z5_0]; exact h.2.2⟩
theorem krr_b {w wx : World} {v c : Nat → Int} (h : CQ w v c wx) (hs : wx.heap.size = w.heap.size + 1 + 1 + 1) : (wx.alloc (.cells #[.int .u64 0, .int .u64 0, .int .u64 0, .int .u64 0, .int .u64 0, .int .u64 0, .int .u64 0, .int .u64 0, .int .u64 0, .int .u64 0, .int .u64 0, .int .u64 0, .int .u64 0, .int .u64 0, .int .u64 0, .int .u64 0, .int .u64 0, .int .u64 0, .int .u64 0, .int .u64 0, .int .u64 0, .int .u64 0, .int .u64 0, .int .u64 0, .int .u64 0] 49)).heap[w.heap.size + 1 + 1 + 1]? = some (.cells #[.int .u64 0, .int .u64 0, .int .u64 0, .int .u64 0, .int .u64 0, .int .u64 0, .int .u64 0, .int .u64 0, .int .u64 0, .int .u64 0, .int .u64 0, .int .u64 0, .int .u64 0, .int .u64 0, .int .u64 0, .int .u64 0, .int .u64 0, .int .u64 0, .int .u64 0, .int .u64 0, .int .u64 0, .int .u64 0, .int .u64 0, .int .u64 0, .int .u64 0] 49 (0, 0)) ∧ CQ3 w v c (fun _ => 0) ((wx.alloc (.cells #[.int .u64 0, .int .u64 0, .int .u64 0, .int .u64 0, .int .u64 0, .int .u64 0, .int .u64 0, .int .u64 0, .int .u64 0, .int .u64 0, .int .u64 0, .int .u64 0, .int .u64 0, .int .u64 0, .int .u64 0, .int .u64 0, .int .u64 0, .int .u64 0, .int .u64 0, .int .u64 0, .int .u64 0, .int .u64 0, .int .u64 0, .int .u64 0, .int .u64 0] 49)).setRow (w.heap.size + 1 + 1 + 1) (ar .u64 25 (tp fun _ => 0))) := by
  have h1 : (wx.alloc (.cells #[.int .u64 0, .int .u64 0, .int .u64 0, .int .u64 0, .int .u64 0, .int .u64 0, .int .u64 0, .int .u64 0, .int .u64 0, .int .u64 0, .int .u64 0, .int .u64 0, .int .u64 0, .int .u64 0, .int .u64 0, .int .u64 0, .int .u64 0, .int .u64 0, .int .u64 0, .int .u64 0, .int .u64 0, .int .u64 0, .int .u64 0, .int .u64 0, .int .u64 0] 49)).heap[w.heap.size + 1 + 1 + 1]? = some (.cells #[.int .u64 0, .int .u64 0, .int .u64 0, .int .u64 0, .int .u64 0, .int .u64 0, .int .u64 0, .int .u64 0, .int .u64 0, .int .u64 0, .int .u64 0, .int .u64 0, .int .u64 0, .int .u64 0, .int .u64 0, .int .u64 0, .int .u64 0, .int .u64 0, .int .u64 0, .int .u64 0, .int .u64 0, .int .u64 0, .int .u64 0, .int .u64 0, .int .u64 0] 49 (0, 0)) := by
    rw [← hs]
    exact heap_alloc_new _ _
  exact ⟨h1, ⟨below_setRow (h.old.alloc (by omega) _) (by omega) _, (setRow_other _ _ _ _ (by omega)).trans ((heap_alloc_old _ _ (by omega)).trans h.r0), (setRow_other _ _ _ _ (by omega)).trans ((heap_alloc_old _ _ (by omega)).trans h.r1), (setRow_other _ _ _ _ (by omega)).trans ((heap_alloc_old _ _ (by omega)).trans h.r2)⟩, setRow_heap _ _ _ _ _ _ h1⟩
theorem z25_val : (.agg #[.int .u64 0, .int .u64 0, .int .u64 0, .int .u64 0, .int .u64 0, .int .u64 0, .int .u64 0, .int .u64 0, .int .u64 0, .int .u64 0, .int .u64 0, .int .u64 0, .int .u64 0, .int .u64 0, .int .u64 0, .int .u64 0, .int .u64 0, .int .u64 0, .int .u64 0, .int .u64 0, .int .u64 0, .int .u64 0, .int .u64 0, .int .u64 0, .int .u64 0] : Value) = .agg (ar .u64 25 (tp fun _ => 0)) := by rw [z25_row]
set_option maxRecDepth 100000 in
set_option maxHeartbeats 8000000 in
-- A ROUND.
theorem krr (v : Nat → Int) (hv : ∀ i, i < 25 → 0 ≤ v i ∧ v i < 18446744073709551616) (w : World) : Calls Tryd.prog 29 #[.agg (ar .u64 25 (tp v))] w fun e w' => e = .returned (.agg (ar .u64 25 (tp (kch (kmv (kth v)))))) ∧ Below w.heap.size w w' := by
  have HV := Lib.hid hv; clear hv
  have HQ0 := Lib.hid (krr_start w v)
  go_enter Tryd.func29, Tryd.ntmps29
  go_wp2_with fail
  go_loopw [4] (fun i wr => ∃ x : Nat, x ≤ 5 ∧ i = .int .i64 x ∧ Hid (wr.heap.size = w.heap.size + 1 + 1 + 1 ∧ CQ w v (cD v x 0) wr)) (fun i _ => 5 - (intOf i).toNat)
  case atStart => exact ⟨0, by omega, rfl, Lib.hid ⟨by simp, HQ0.out⟩⟩
  case round =>
    obtain ⟨x, hx, rfl, H⟩ := hrel
    clear HQ0
    have hx0 : (0 : Int) ≤ x := by omega
    by_cases hlx : x < 5
    · have hlx' : (x : Int) < 5 := by omega
      have HX := Lib.hid hlx
      go_wp2_with fail
      go_loopw [5] (fun i wr => ∃ y : Nat, y ≤ 5 ∧ i = .int .i64 y ∧ Hid (wr.heap.size = w.heap.size + 1 + 1 + 1 ∧ CQ w v (cD v x y) wr)) (fun i _ => 5 - (intOf i).toNat)
      case atStart => exact ⟨0, by omega, rfl, H⟩
      case round =>
        obtain ⟨y, hy, rfl, H1⟩ := hrel
        clear H
        have hy0 : (0 : Int) ≤ y := by omega
        by_cases hly : y < 5
        · have hly' : (y : Int) < 5 := by omega
          have HY := Lib.hid hly
          have HN := Lib.hid (cD_next v x y)
          obtain ⟨z0, hz0⟩ : ∃ z, cD v x y x = z := ⟨_, rfl⟩
          obtain ⟨z1, hz1⟩ : ∃ z, v (x + 5 * y) = z := ⟨_, rfl⟩
          rw [hz0, hz1] at HN
          have HZ := Lib.hid (And.intro hz0 hz1)
          clear hz0 hz1
          have HS := Lib.hid (show ∀ wx, CQ w v (cD v x y) wx → wx.heap[w.heap.size + 1 + 1]? = some (.cells (ar .u64 5 (cD v x y)) 48 (0, 0)) from fun _ h => h.r2)
          go_wp2_with fail
          refine region_quiet_tail 11 (fun wx => wx.heap.size = w.heap.size + 1 + 1 + 1 ∧ CQ w v (cD v x y) wx) (by kernel_rfl) (by kernel_rfl) ⟨H1.out.1, H1.out.2.drew⟩ ?_
          simp only [List.take_succ_cons, List.take_zero, List.drop_succ_cons, List.drop_zero]
          with_reducible refine q_val (.int .i64 (x : Nat)) (by kernel_rfl) (fun _ _ => by kernel_rfl) ?_
          with_reducible refine q_val (.int .i64 (x : Nat)) (by kernel_rfl) (fun _ _ => by kernel_rfl) ?_
          with_reducible refine q_v (Instr.indexAt 48 (.pointer (some ⟨w.heap.size + 1 + 1, 0, none⟩)) (.int .i64 (x : Nat))) (.pointer (some ⟨w.heap.size + 1 + 1, x, none⟩)) (by kernel_rfl) (by kernel_rfl) (fun wz _ => ix5z (w.heap.size + 1 + 1) x HX.out wz) ?_
          with_reducible refine q_load 34 (.tmp 25) (.pointer (some ⟨w.heap.size + 1 + 1, x, none⟩)) (.int .u64 z0) rfl (by kernel_rfl) (by kernel_rfl) (fun _ h => h.2.ldc x HX.out _ HZ.out.1) ?_
          with_reducible refine q_val (.int .i64 (x : Nat)) (by kernel_rfl) (fun _ _ => by kernel_rfl) ?_
          with_reducible refine q_val (.int .i64 (y : Nat)) (by kernel_rfl) (fun _ _ => by kernel_rfl) ?_
          with_reducible refine q_v (Instr.indexAt 49 (.pointer (some ⟨w.heap.size, 0, none⟩)) (.int .i64 (x : Nat))) (.pointer (some ⟨w.heap.size, 5 * x, none⟩)) (by kernel_rfl) (by kernel_rfl) (fun wz _ => ix25 (w.heap.size) x HX.out wz) ?_
          with_reducible refine q_v (Instr.indexAt 48 (.pointer (some ⟨w.heap.size, 5 * x, none⟩)) (.int .i64 (y : Nat))) (.pointer (some ⟨w.heap.size, 5 * x + y, none⟩)) (by kernel_rfl) (by kernel_rfl) (fun wz _ => ix5 (w.heap.size) (5 * x) y HY.out wz) ?_
          with_reducible refine q_load 34 (.tmp 30) (.pointer (some ⟨w.heap.size, 5 * x + y, none⟩)) (.int .u64 z1) rfl (by kernel_rfl) (by kernel_rfl) (fun _ h => h.2.lda x y HX.out HY.out _ HZ.out.2) ?_
          with_reducible refine q_val (.int .u64 (bits .xor .u64 z0 z1)) (by kernel_rfl) (fun _ _ => by kernel_rfl) ?_
          with_reducible refine q_v (Instr.indexAt 48 (.pointer (some ⟨w.heap.size + 1 + 1, 0, none⟩)) (.int .i64 (x : Nat))) (.pointer (some ⟨w.heap.size + 1 + 1, x, none⟩)) (by kernel_rfl) (by kernel_rfl) (fun wz _ => ix5z (w.heap.size + 1 + 1) x HX.out wz) ?_
          with_reducible refine wpQuiet_nil ?_
          intro w1 hCx
          simp only [Act.put, List.setIfInBounds_toArray, List.set_cons_succ, List.set_cons_zero]
          have co := (cell_of_row w1 _ x _ _ _ hCx.2.r2).trans (ar_at _ _ _ _ HX.out)
          have fo := frozen_of_row _ _ x _ _ hCx.2.r2
          have H2 := Lib.hid (show (w1.setCell ⟨w.heap.size + 1 + 1, x, none⟩ (.int .u64 (bits .xor .u64 z0 z1))).heap.size = w.heap.size + 1 + 1 + 1 ∧ CQ w v (cD v x (y + 1)) (w1.setCell ⟨w.heap.size + 1 + 1, x, none⟩ (.int .u64 (bits .xor .u64 z0 z1))) from ⟨by simpa using hCx.1, by rw [← HN.out]; exact hCx.2.setc x HX.out _⟩)
          clear hCx H1 HS
          go_wp2_with fail
          go_roundw
          case rel => exact ⟨y + 1, by omega, by go_num, H2⟩
          case measure => simp [intOf]; omega
        · obtain rfl : y = 5 := by omega
          have H2 := Lib.hid (show wr.heap.size = w.heap.size + 1 + 1 + 1 ∧ CQ w v (cD v (x + 1) 0) wr from by rw [← cD_row]; exact H1.out)
          clear H1
          go_wp2_with fail
          go_roundw
          case rel => exact ⟨x + 1, by omega, by go_num, H2⟩
          case measure => simp [intOf]; omega
    · obtain rfl : x = 5 := by omega
      have hCC : ∀ j, j < 5 → cD v 5 0 j = kcl v j := fun j hj => by
        unfold cD
        rw [if_pos hj]
        exact cpt_5 v j (HV.out j (by omega))
      have HC5 := Lib.hid (show ar .u64 5 (cD v 5 0) = ar .u64 5 (kcl v) from ar_congr hCC)
      have h3 := krr_b (w := w) (wx := wr) (v := v) (c := kcl v) ⟨H.out.2.old, H.out.2.r0, H.out.2.r1, by rw [← HC5.out]; exact H.out.2.r2⟩ H.out.1
      have H3 := Lib.hid (h3.2.to (tD_0 v).symm)
      have HR3 := Lib.hid h3.1
      have HZ3 := Lib.hid z25_val
      have HI3 : Hid ((Tryd.prog.info? 49).map (·.size) = some (ar .u64 25 (tp fun _ => 0)).size) := Lib.hid (by rw [ar_size]; exact info25)
      clear hCC h3 HC5
      have hsz := H.out.1
      clear H
      go_wp2_with (refine wpList_store_row rfl 49 _ _ rfl (w.heap.size + 1 + 1 + 1) (ar .u64 25 (tp fun _ => 0)) rfl HZ3.out 49 _ HR3.out HI3.out (by rw [ar_size]; rfl) (ar_one _ _ _) ?_)
      go_loopw [7] (fun i wr => ∃ x : Nat, x ≤ 5 ∧ i = .int .i64 x ∧ Hid (CQ3 w (tD v x 0) (kcl v) (fun _ => 0) wr)) (fun i _ => 5 - (intOf i).toNat)
      case atStart => exact ⟨0, by omega, rfl, H3⟩
      case round =>
        obtain ⟨x, hx, rfl, H⟩ := hrel
        clear H3 hsz HR3 HZ3 HI3
        have hx0 : (0 : Int) ≤ x := by omega
        by_cases hlx : x < 5
        · have hlx' : (x : Int) < 5 := by omega
          have HX := Lib.hid hlx
          go_wp2_with fail
          go_loopw [8] (fun i wr => ∃ y : Nat, y ≤ 5 ∧ i = .int .i64 y ∧ Hid (CQ3 w (tD v x y) (kcl v) (fun _ => 0) wr)) (fun i _ => 5 - (intOf i).toNat)
          case atStart => exact ⟨0, by omega, rfl, H⟩
          case round =>
            obtain ⟨y, hy, rfl, H1⟩ := hrel
            clear H
            have hy0 : (0 : Int) ≤ y := by omega
            by_cases hly : y < 5
            · have hly' : (y : Int) < 5 := by omega
              have HY := Lib.hid hly
              have HN := Lib.hid (And.intro (tD_next v (y := y) hlx) (And.intro (tD_at v x y hlx) (kth_of v x y hlx hly)))
              obtain ⟨x1, hx1⟩ : ∃ z, (x + 1) % 5 = z := ⟨_, rfl⟩
              obtain ⟨x4, hx4⟩ : ∃ z, (x + 4) % 5 = z := ⟨_, rfl⟩
              have HX1 := Lib.hid (show x1 < 5 by omega)
              have HX4 := Lib.hid (show x4 < 5 by omega)
              obtain ⟨z0, hz0⟩ : ∃ z, v (x + 5 * y) = z := ⟨_, rfl⟩
              obtain ⟨z1, hz1⟩ : ∃ z, kcl v x1 = z := ⟨_, rfl⟩
              obtain ⟨z4, hz4⟩ : ∃ z, kcl v x4 = z := ⟨_, rfl⟩
              rw [hx1, hx4, hz0, hz1, hz4] at HN
              have HZ := Lib.hid (And.intro hz1 hz4)
              have e1 : ∀ w, (binOp BinOp.rem 3 (.int .i64 ((x : Int) + 1)) (.int .i64 5)).run Tryd.prog w = .ok (.int .i64 (x1 : Nat)) w := by
                have hq : x = 0 ∨ x = 1 ∨ x = 2 ∨ x = 3 ∨ x = 4 := by omega
                rw [← hx1]
                rcases hq with rfl | rfl | rfl | rfl | rfl <;> exact fun w => by kernel_rfl
              have e4 : ∀ w, (binOp BinOp.rem 3 (.int .i64 ((x : Int) + 4)) (.int .i64 5)).run Tryd.prog w = .ok (.int .i64 (x4 : Nat)) w := by
                have hq : x = 0 ∨ x = 1 ∨ x = 2 ∨ x = 3 ∨ x = 4 := by omega
                rw [← hx4]
                rcases hq with rfl | rfl | rfl | rfl | rfl <;> exact fun w => by kernel_rfl
              have a1 : ∀ w, (binOp BinOp.add 3 (.int .i64 x) (.int .i64 1)).run Tryd.prog w = .ok (.int .i64 ((x : Int) + 1)) w := by
                have hq : x = 0 ∨ x = 1 ∨ x = 2 ∨ x = 3 ∨ x = 4 := by omega
                rcases hq with rfl | rfl | rfl | rfl | rfl <;> exact fun w => by kernel_rfl
              have a4 : ∀ w, (binOp BinOp.add 3 (.int .i64 x) (.int .i64 4)).run Tryd.prog w = .ok (.int .i64 ((x : Int) + 4)) w := by
                have hq : x = 0 ∨ x = 1 ∨ x = 2 ∨ x = 3 ∨ x = 4 := by omega
                rcases hq with rfl | rfl | rfl | rfl | rfl <;> exact fun w => by kernel_rfl
              have E1 := Lib.hid e1
              have E4 := Lib.hid e4
              have A1 := Lib.hid a1
              have A4 := Lib.hid a4
              clear hx1 hx4 hz0 hz1 hz4 e1 e4 a1 a4
              go_wp2_with fail
              refine region_quiet_tail 22 (CQ3 w (tD v x y) (kcl v) (fun _ => 0)) (by kernel_rfl) (by kernel_rfl) H1.out.drew ?_
              simp only [List.take_succ_cons, List.take_zero, List.drop_succ_cons, List.drop_zero]
              with_reducible refine q_val (.int .i64 (x : Nat)) (by kernel_rfl) (fun _ _ => by kernel_rfl) ?_
              with_reducible refine q_val (.int .i64 (y : Nat)) (by kernel_rfl) (fun _ _ => by kernel_rfl) ?_
              with_reducible refine q_val (.int .i64 (x : Nat)) (by kernel_rfl) (fun _ _ => by kernel_rfl) ?_
              with_reducible refine q_val (.int .i64 (y : Nat)) (by kernel_rfl) (fun _ _ => by kernel_rfl) ?_
              with_reducible refine q_v (Instr.indexAt 49 (.pointer (some ⟨w.heap.size, 0, none⟩)) (.int .i64 (x : Nat))) (.pointer (some ⟨w.heap.size, 5 * x, none⟩)) (by kernel_rfl) (by kernel_rfl) (fun wz _ => ix25 (w.heap.size) x HX.out wz) ?_
              with_reducible refine q_v (Instr.indexAt 48 (.pointer (some ⟨w.heap.size, 5 * x, none⟩)) (.int .i64 (y : Nat))) (.pointer (some ⟨w.heap.size, 5 * x + y, none⟩)) (by kernel_rfl) (by kernel_rfl) (fun wz _ => ix5 (w.heap.size) (5 * x) y HY.out wz) ?_
              with_reducible refine q_load 34 (.tmp 48) (.pointer (some ⟨w.heap.size, 5 * x + y, none⟩)) (.int .u64 z0) rfl (by kernel_rfl) (by kernel_rfl) (fun _ h => h.q.lda x y HX.out HY.out _ HN.out.2.1) ?_
              with_reducible refine q_val (.int .i64 (x : Nat)) (by kernel_rfl) (fun _ _ => by kernel_rfl) ?_
              with_reducible refine q_v (binOp BinOp.add 3 (.int .i64 x) (.int .i64 4)) (.int .i64 ((x : Int) + 4)) (by kernel_rfl) (by kernel_rfl) (fun wz _ => A4.out wz) ?_
              with_reducible refine q_v (binOp BinOp.rem 3 (.int .i64 ((x : Int) + 4)) (.int .i64 5)) (.int .i64 (x4 : Nat)) (by kernel_rfl) (by kernel_rfl) (fun wz _ => E4.out wz) ?_
              with_reducible refine q_v (Instr.indexAt 48 (.pointer (some ⟨w.heap.size + 1 + 1, 0, none⟩)) (.int .i64 (x4 : Nat))) (.pointer (some ⟨w.heap.size + 1 + 1, x4, none⟩)) (by kernel_rfl) (by kernel_rfl) (fun wz _ => ix5z (w.heap.size + 1 + 1) x4 HX4.out wz) ?_
              with_reducible refine q_load 34 (.tmp 53) (.pointer (some ⟨w.heap.size + 1 + 1, x4, none⟩)) (.int .u64 z4) rfl (by kernel_rfl) (by kernel_rfl) (fun _ h => h.q.ldc x4 HX4.out _ HZ.out.2) ?_
              with_reducible refine q_val (.int .u64 (bits .xor .u64 z0 z4)) (by kernel_rfl) (fun _ _ => by kernel_rfl) ?_
              with_reducible refine q_val (.int .i64 (x : Nat)) (by kernel_rfl) (fun _ _ => by kernel_rfl) ?_
              with_reducible refine q_v (binOp BinOp.add 3 (.int .i64 x) (.int .i64 1)) (.int .i64 ((x : Int) + 1)) (by kernel_rfl) (by kernel_rfl) (fun wz _ => A1.out wz) ?_
              with_reducible refine q_v (binOp BinOp.rem 3 (.int .i64 ((x : Int) + 1)) (.int .i64 5)) (.int .i64 (x1 : Nat)) (by kernel_rfl) (by kernel_rfl) (fun wz _ => E1.out wz) ?_
              with_reducible refine q_v (Instr.indexAt 48 (.pointer (some ⟨w.heap.size + 1 + 1, 0, none⟩)) (.int .i64 (x1 : Nat))) (.pointer (some ⟨w.heap.size + 1 + 1, x1, none⟩)) (by kernel_rfl) (by kernel_rfl) (fun wz _ => ix5z (w.heap.size + 1 + 1) x1 HX1.out wz) ?_
              with_reducible refine q_load 34 (.tmp 59) (.pointer (some ⟨w.heap.size + 1 + 1, x1, none⟩)) (.int .u64 z1) rfl (by kernel_rfl) (by kernel_rfl) (fun _ h => h.q.ldc x1 HX1.out _ HZ.out.1) ?_
              with_reducible refine q_call 42 #[.int .u64 z1, .int .i64 1] (.int .u64 (rul 1 z1)) (by kernel_rfl) (fun _ => by kernel_rfl) (fun wx h => (up_any z1 1 (by decide) wx).mono fun e w' hh => ⟨hh.1, by rw [hh.2]; exact h⟩) ?_
              with_reducible refine q_val (.int .u64 (bits .xor .u64 (bits .xor .u64 z0 z4) (rul 1 z1))) (by kernel_rfl) (fun _ _ => by kernel_rfl) ?_
              with_reducible refine q_v (Instr.indexAt 49 (.pointer (some ⟨w.heap.size, 0, none⟩)) (.int .i64 (x : Nat))) (.pointer (some ⟨w.heap.size, 5 * x, none⟩)) (by kernel_rfl) (by kernel_rfl) (fun wz _ => ix25 (w.heap.size) x HX.out wz) ?_
              with_reducible refine q_v (Instr.indexAt 48 (.pointer (some ⟨w.heap.size, 5 * x, none⟩)) (.int .i64 (y : Nat))) (.pointer (some ⟨w.heap.size, 5 * x + y, none⟩)) (by kernel_rfl) (by kernel_rfl) (fun wz _ => ix5 (w.heap.size) (5 * x) y HY.out wz) ?_
              with_reducible refine wpQuiet_nil ?_
              intro w1 hCx
              simp only [Act.put, List.setIfInBounds_toArray, List.set_cons_succ, List.set_cons_zero]
              rw [HN.out.2.2]
              have hsa := hCx.seta x y HX.out HY.out (kth v (x + 5 * y))
              have co := (cell_of_row w1 _ (5 * x + y) _ _ _ hCx.q.r0).trans (ar_at _ _ _ _ (by omega))
              have fo := frozen_of_row _ _ (5 * x + y) _ _ hCx.q.r0
              have H2 := Lib.hid (hsa.to HN.out.1)
              clear hCx H1 hsa
              go_wp2_with fail
              go_roundw
              case rel => exact ⟨y + 1, by omega, by go_num, H2⟩
              case measure => simp [intOf]; omega
            · obtain rfl : y = 5 := by omega
              have H2 := Lib.hid (H1.out.to (tD_row v x))
              clear H1
              go_wp2_with fail
              go_roundw
              case rel => exact ⟨x + 1, by omega, by go_num, H2⟩
              case measure => simp [intOf]; omega
        · obtain rfl : x = 5 := by omega
          have H1 := Lib.hid (H.out.to (tD_5 v))
          clear H
          have hru : ∀ i, i < 25 → 0 ≤ kth v i ∧ kth v i < 18446744073709551616 := kth_rng v
          obtain ⟨u, hu⟩ : ∃ u, kth v = u := ⟨_, rfl⟩
          rw [hu] at H1 hru
          have HU := Lib.hid (And.intro hu hru)
          clear hu hru
          have c0 := (cell_of_row wr _ 0 _ _ _ H1.out.q.r0).trans (ar_at _ _ _ _ (by decide))
          rw [show tp u 0 = u 0 from rfl] at c0
          have c3 := (cell_of_row wr _ 0 _ _ _ H1.out.r3).trans (ar_at _ _ _ _ (by decide))
          have f3 := frozen_of_row _ _ 0 _ _ H1.out.r3
          have hsb := H1.out.setb 0 0 (by decide) (by decide) (u 0)
          have H2 := Lib.hid (hsb.tob (u := mB u 0) (tp_congr fun j hj => by
            unfold updI mB
            rw [if_neg (show ¬ posT j < 0 by omega)]))
          clear H1 hsb
          go_wp2_with fail
          go_loopw [9, 10, 11] (fun a b i wr => ∃ t : Nat, t ≤ 24 ∧ i = .int .i64 t ∧ a = .int .i64 (lanT t % 5 : Nat) ∧ b = .int .i64 (lanT t / 5 : Nat) ∧ Hid (CQ3 w u (kcl v) (mB u t) wr)) (fun _ _ i _ => 24 - (intOf i).toNat)
          case atStart => exact ⟨0, by omega, rfl, rfl, rfl, H2⟩
          case round =>
            obtain ⟨t, ht, rfl, rfl, rfl, H⟩ := hrel
            clear H2 c0 c3 f3
            have ht0 : (0 : Int) ≤ t := by omega
            by_cases hlt : t < 24
            · have hlt' : (t : Int) < 24 := by omega
              have HL := Lib.hid (And.intro (lan_xy t hlt) (And.intro (pth_all t hlt) (mB_next u t hlt)))
              obtain ⟨x, hx⟩ : ∃ x, lanT t % 5 = x := ⟨_, rfl⟩
              obtain ⟨y, hy⟩ : ∃ x, lanT t / 5 = x := ⟨_, rfl⟩
              obtain ⟨y', hy'⟩ : ∃ x, (2 * (lanT t % 5) + 3 * (lanT t / 5)) % 5 = x := ⟨_, rfl⟩
              obtain ⟨b, hb⟩ : ∃ x, (t + 1) * (t + 2) / 2 = x := ⟨_, rfl⟩
              have hlxy : lanT t = x + 5 * y := by omega
              have HX := Lib.hid (show x < 5 by omega)
              have HY := Lib.hid (show y < 5 by have := HL.out.1.2.1; omega)
              have HY' := Lib.hid (show y' < 5 by omega)
              have hbb : b ≤ 300 := by
                have h1 : (t + 1) * (t + 2) ≤ 24 * 25 := Nat.mul_le_mul (by omega) (by omega)
                omega
              have HB := Lib.hid (show b < 4294967296 by omega)
              obtain ⟨z, hz⟩ : ∃ z, u (x + 5 * y) = z := ⟨_, rfl⟩
              have HZ := Lib.hid hz
              have HNX := Lib.hid (show lanT (t + 1) % 5 = y ∧ lanT (t + 1) / 5 = y' from ⟨HL.out.1.2.2.2.1.trans hy, HL.out.1.2.2.2.2.trans hy'⟩)
              have HM := Lib.hid (show updI (mB u t) (y + 5 * y') (rul b z) = mB u (t + 1) from by
                have h1 := HL.out.2.2
                rw [hb, HL.out.1.2.2.1, hy', hy, hlxy, hz] at h1
                exact h1)
              rw [hx, hy]
              have hx5 := HX.out
              have hy5 := HY.out
              have hy5' := HY'.out
              have m1 : ∀ w, (binOp BinOp.mul 3 (.int .i64 2) (.int .i64 x)).run Tryd.prog w = .ok (.int .i64 (2 * (x : Int))) w := by
                have hq : x = 0 ∨ x = 1 ∨ x = 2 ∨ x = 3 ∨ x = 4 := by omega
                rcases hq with rfl | rfl | rfl | rfl | rfl <;> exact fun w => by kernel_rfl
              have m2 : ∀ w, (binOp BinOp.mul 3 (.int .i64 3) (.int .i64 y)).run Tryd.prog w = .ok (.int .i64 (3 * (y : Int))) w := by
                have hq : y = 0 ∨ y = 1 ∨ y = 2 ∨ y = 3 ∨ y = 4 := by omega
                rcases hq with rfl | rfl | rfl | rfl | rfl <;> exact fun w => by kernel_rfl
              obtain ⟨s, hs⟩ : ∃ s : Nat, 2 * x + 3 * y = s := ⟨_, rfl⟩
              have hsr : s % 5 = y' := by rw [← hs, ← hx, ← hy]; exact hy'
              have m3 : ∀ w, (binOp BinOp.add 3 (.int .i64 (2 * (x : Int))) (.int .i64 (3 * (y : Int)))).run Tryd.prog w = .ok (.int .i64 (s : Nat)) w := by
                have e1 : (2 * (x : Int)) + 3 * (y : Int) = (s : Int) := by omega
                have e2 : IntKind.i64.wrap (s : Int) = s := by rw [IntKind.wrap_i64]; omega
                intro w
                go_simp
              have m4 : ∀ w, (binOp BinOp.rem 3 (.int .i64 (s : Nat)) (.int .i64 5)).run Tryd.prog w = .ok (.int .i64 (y' : Nat)) w := by
                have e1 : (s : Int).tmod 5 = (y' : Int) := by rw [Int.tmod_eq_emod_of_nonneg (by omega)]; omega
                have e2 : (s : Int) % 5 = (y' : Int) := by omega
                have e3 : IntKind.i64.wrap (y' : Int) = y' := by rw [IntKind.wrap_i64]; omega
                intro w
                go_simp
              have m5 : ∀ w, (binOp BinOp.add 3 (.int .i64 t) (.int .i64 1)).run Tryd.prog w = .ok (.int .i64 ((t : Int) + 1)) w := by
                have e2 : IntKind.i64.wrap ((t : Int) + 1) = (t : Int) + 1 := by rw [IntKind.wrap_i64]; omega
                intro w
                go_simp
              have m6 : ∀ w, (binOp BinOp.add 3 (.int .i64 t) (.int .i64 2)).run Tryd.prog w = .ok (.int .i64 ((t : Int) + 2)) w := by
                have e2 : IntKind.i64.wrap ((t : Int) + 2) = (t : Int) + 2 := by rw [IntKind.wrap_i64]; omega
                intro w
                go_simp
              obtain ⟨p, hp⟩ : ∃ p : Nat, (t + 1) * (t + 2) = p := ⟨_, rfl⟩
              have hp6 : p ≤ 600 := by rw [← hp]; exact Nat.mul_le_mul (show t + 1 ≤ 24 by omega) (show t + 2 ≤ 25 by omega)
              have m7 : ∀ w, (binOp BinOp.mul 3 (.int .i64 ((t : Int) + 1)) (.int .i64 ((t : Int) + 2))).run Tryd.prog w = .ok (.int .i64 (p : Nat)) w := by
                have e1 : ((t : Int) + 1) * ((t : Int) + 2) = (p : Int) := by rw [← hp]; simp
                have e2 : IntKind.i64.wrap (p : Int) = p := by rw [IntKind.wrap_i64]; omega
                intro w
                go_simp
              have m8 : ∀ w, (binOp BinOp.quo 3 (.int .i64 (p : Nat)) (.int .i64 2)).run Tryd.prog w = .ok (.int .i64 (b : Nat)) w := by
                have e1 : (p : Int).tdiv 2 = (b : Int) := by rw [Int.tdiv_eq_ediv_of_nonneg (by omega), ← hb, hp]; omega
                have e0 : (p : Int) / 2 = (b : Int) := by rw [← hb, hp]; omega
                have e2 : IntKind.i64.wrap (b : Int) = b := by rw [IntKind.wrap_i64]; omega
                intro w
                go_simp
              have HS5 := Lib.hid (show (2 * (x : Int) + 3 * (y : Int)) % 5 = (y' : Int) by omega)
              have M1 := Lib.hid m1
              have M2 := Lib.hid m2
              have M3 := Lib.hid m3
              have M4 := Lib.hid m4
              have M5 := Lib.hid m5
              have M6 := Lib.hid m6
              have M7 := Lib.hid m7
              have M8 := Lib.hid m8
              clear m1 m2 m3 m4 m5 m6 m7 m8 hs hsr hp hp6 hx hy hy' hb hlxy hbb hz HL
              go_wp2_with fail
              refine region_quiet_tail 21 (CQ3 w u (kcl v) (mB u t)) (by kernel_rfl) (by kernel_rfl) H.out.drew ?_
              simp only [List.take_succ_cons, List.take_zero, List.drop_succ_cons, List.drop_zero]
              with_reducible refine q_val (.int .i64 (y : Nat)) (by kernel_rfl) (fun _ _ => by kernel_rfl) ?_
              with_reducible refine q_val (.int .i64 (x : Nat)) (by kernel_rfl) (fun _ _ => by kernel_rfl) ?_
              with_reducible refine q_v (binOp BinOp.mul 3 (.int .i64 2) (.int .i64 x)) (.int .i64 (2 * (x : Int))) (by kernel_rfl) (by kernel_rfl) (fun wz _ => M1.out wz) ?_
              with_reducible refine q_val (.int .i64 (y : Nat)) (by kernel_rfl) (fun _ _ => by kernel_rfl) ?_
              with_reducible refine q_v (binOp BinOp.mul 3 (.int .i64 3) (.int .i64 y)) (.int .i64 (3 * (y : Int))) (by kernel_rfl) (by kernel_rfl) (fun wz _ => M2.out wz) ?_
              with_reducible refine q_v (binOp BinOp.add 3 (.int .i64 (2 * (x : Int))) (.int .i64 (3 * (y : Int)))) (.int .i64 (s : Nat)) (by kernel_rfl) (by kernel_rfl) (fun wz _ => M3.out wz) ?_
              with_reducible refine q_v (binOp BinOp.rem 3 (.int .i64 (s : Nat)) (.int .i64 5)) (.int .i64 (y' : Nat)) (by kernel_rfl) (by kernel_rfl) (fun wz _ => M4.out wz) ?_
              with_reducible refine q_val (.int .i64 (x : Nat)) (by kernel_rfl) (fun _ _ => by kernel_rfl) ?_
              with_reducible refine q_val (.int .i64 (y : Nat)) (by kernel_rfl) (fun _ _ => by kernel_rfl) ?_
              with_reducible refine q_v (Instr.indexAt 49 (.pointer (some ⟨w.heap.size, 0, none⟩)) (.int .i64 (x : Nat))) (.pointer (some ⟨w.heap.size, 5 * x, none⟩)) (by kernel_rfl) (by kernel_rfl) (fun wz _ => ix25 (w.heap.size) x HX.out wz) ?_
              with_reducible refine q_v (Instr.indexAt 48 (.pointer (some ⟨w.heap.size, 5 * x, none⟩)) (.int .i64 (y : Nat))) (.pointer (some ⟨w.heap.size, 5 * x + y, none⟩)) (by kernel_rfl) (by kernel_rfl) (fun wz _ => ix5 (w.heap.size) (5 * x) y HY.out wz) ?_
              with_reducible refine q_load 34 (.tmp 84) (.pointer (some ⟨w.heap.size, 5 * x + y, none⟩)) (.int .u64 z) rfl (by kernel_rfl) (by kernel_rfl) (fun _ h => h.q.lda x y HX.out HY.out _ HZ.out) ?_
              with_reducible refine q_val (.int .i64 (t : Nat)) (by kernel_rfl) (fun _ _ => by kernel_rfl) ?_
              with_reducible refine q_v (binOp BinOp.add 3 (.int .i64 t) (.int .i64 1)) (.int .i64 ((t : Int) + 1)) (by kernel_rfl) (by kernel_rfl) (fun wz _ => M5.out wz) ?_
              with_reducible refine q_val (.int .i64 (t : Nat)) (by kernel_rfl) (fun _ _ => by kernel_rfl) ?_
              with_reducible refine q_v (binOp BinOp.add 3 (.int .i64 t) (.int .i64 2)) (.int .i64 ((t : Int) + 2)) (by kernel_rfl) (by kernel_rfl) (fun wz _ => M6.out wz) ?_
              with_reducible refine q_v (binOp BinOp.mul 3 (.int .i64 ((t : Int) + 1)) (.int .i64 ((t : Int) + 2))) (.int .i64 (p : Nat)) (by kernel_rfl) (by kernel_rfl) (fun wz _ => M7.out wz) ?_
              with_reducible refine q_v (binOp BinOp.quo 3 (.int .i64 (p : Nat)) (.int .i64 2)) (.int .i64 (b : Nat)) (by kernel_rfl) (by kernel_rfl) (fun wz _ => M8.out wz) ?_
              with_reducible refine q_call 42 #[.int .u64 z, .int .i64 b] (.int .u64 (rul b z)) (by kernel_rfl) (fun _ => by kernel_rfl) (fun wx h => (up_any z b HB.out wx).mono fun e w' hh => ⟨hh.1, by rw [hh.2]; exact h⟩) ?_
              with_reducible refine q_v (Instr.indexAt 49 (.pointer (some ⟨w.heap.size + 1 + 1 + 1, 0, none⟩)) (.int .i64 (y : Nat))) (.pointer (some ⟨w.heap.size + 1 + 1 + 1, 5 * y, none⟩)) (by kernel_rfl) (by kernel_rfl) (fun wz _ => ix25 (w.heap.size + 1 + 1 + 1) y HY.out wz) ?_
              with_reducible refine q_v (Instr.indexAt 48 (.pointer (some ⟨w.heap.size + 1 + 1 + 1, 5 * y, none⟩)) (.int .i64 (y' : Nat))) (.pointer (some ⟨w.heap.size + 1 + 1 + 1, 5 * y + y', none⟩)) (by kernel_rfl) (by kernel_rfl) (fun wz _ => ix5 (w.heap.size + 1 + 1 + 1) (5 * y) y' HY'.out wz) ?_
              with_reducible refine wpQuiet_nil ?_
              intro w1 hCx
              simp only [Act.put, List.setIfInBounds_toArray, List.set_cons_succ, List.set_cons_zero]
              have hsa := hCx.setb y y' HY.out HY'.out (rul b z)
              have co := (cell_of_row w1 _ (5 * y + y') _ _ _ hCx.r3).trans (ar_at _ _ _ _ (by omega))
              have fo := frozen_of_row _ _ (5 * y + y') _ _ hCx.r3
              rw [HM.out] at hsa
              have H2 := Lib.hid hsa
              clear hCx H hsa
              have n1 := M1.out
              have n2 := M2.out
              have n3 := M3.out
              have n4 := M4.out
              go_wp2_with fail
              go_roundw
              case rel => exact ⟨t + 1, by omega, by go_num, by rw [HNX.out.1], by rw [HNX.out.2, ← HS5.out], H2⟩
              case measure => simp [intOf]; omega
            · obtain rfl : t = 24 := by omega
              have hrm := kmv_rng u (HU.out.2 0 (by decide))
              have H2 := Lib.hid (H.out.tob (mB_all u))
              obtain ⟨m, hm⟩ : ∃ m, kmv u = m := ⟨_, rfl⟩
              rw [hm] at H2
              have HM := Lib.hid hm
              have H3 := Lib.hid (show CQ3 w (cE m u 0) (kcl v) m wr from by rw [cE_0]; exact H2.out)
              clear H H2 hm hrm
              go_wp2_with fail
              go_loopw [12] (fun i wr => ∃ y : Nat, y ≤ 5 ∧ i = .int .i64 y ∧ Hid (CQ3 w (cE m u (5 * y)) (kcl v) m wr)) (fun i _ => 5 - (intOf i).toNat)
              case atStart => exact ⟨0, by omega, rfl, H3⟩
              case round =>
                obtain ⟨y, hy, rfl, H⟩ := hrel
                clear H3
                have hy0 : (0 : Int) ≤ y := by omega
                by_cases hly : y < 5
                · have hly' : (y : Int) < 5 := by omega
                  have HY := Lib.hid hly
                  go_wp2_with fail
                  go_loopw [13] (fun i wr => ∃ x : Nat, x ≤ 5 ∧ i = .int .i64 x ∧ Hid (CQ3 w (cE m u (x + 5 * y)) (kcl v) m wr)) (fun i _ => 5 - (intOf i).toNat)
                  case atStart => exact ⟨0, by omega, rfl, by rw [Nat.zero_add]; exact H⟩
                  case round =>
                    obtain ⟨x, hx, rfl, H1⟩ := hrel
                    clear H
                    have hx0 : (0 : Int) ≤ x := by omega
                    by_cases hlx : x < 5
                    · have hlx' : (x : Int) < 5 := by omega
                      have HX := Lib.hid hlx
                      have HN := Lib.hid (And.intro (cE_next m u (x + 5 * y)) (kch_of2 m x y hlx))
                      obtain ⟨x1, hx1⟩ : ∃ z, (x + 1) % 5 = z := ⟨_, rfl⟩
                      obtain ⟨x2, hx2⟩ : ∃ z, (x + 2) % 5 = z := ⟨_, rfl⟩
                      have HX1 := Lib.hid (show x1 < 5 by omega)
                      have HX2 := Lib.hid (show x2 < 5 by omega)
                      obtain ⟨z0, hz0⟩ : ∃ z, m (x + 5 * y) = z := ⟨_, rfl⟩
                      obtain ⟨z1, hz1⟩ : ∃ z, m (x1 + 5 * y) = z := ⟨_, rfl⟩
                      obtain ⟨z2, hz2⟩ : ∃ z, m (x2 + 5 * y) = z := ⟨_, rfl⟩
                      obtain ⟨z, hz⟩ : ∃ z, kch m (x + 5 * y) = z := ⟨_, rfl⟩
                      rw [hx1, hx2, hz0, hz1, hz2, hz] at HN
                      have HZ := Lib.hid (And.intro hz0 (And.intro hz1 hz2))
                      have e1 : ∀ w, (binOp BinOp.rem 3 (.int .i64 ((x : Int) + 1)) (.int .i64 5)).run Tryd.prog w = .ok (.int .i64 (x1 : Nat)) w := by
                        have hq : x = 0 ∨ x = 1 ∨ x = 2 ∨ x = 3 ∨ x = 4 := by omega
                        rw [← hx1]
                        rcases hq with rfl | rfl | rfl | rfl | rfl <;> exact fun w => by kernel_rfl
                      have e2 : ∀ w, (binOp BinOp.rem 3 (.int .i64 ((x : Int) + 2)) (.int .i64 5)).run Tryd.prog w = .ok (.int .i64 (x2 : Nat)) w := by
                        have hq : x = 0 ∨ x = 1 ∨ x = 2 ∨ x = 3 ∨ x = 4 := by omega
                        rw [← hx2]
                        rcases hq with rfl | rfl | rfl | rfl | rfl <;> exact fun w => by kernel_rfl
                      have a1 : ∀ w, (binOp BinOp.add 3 (.int .i64 x) (.int .i64 1)).run Tryd.prog w = .ok (.int .i64 ((x : Int) + 1)) w := by
                        have hq : x = 0 ∨ x = 1 ∨ x = 2 ∨ x = 3 ∨ x = 4 := by omega
                        rcases hq with rfl | rfl | rfl | rfl | rfl <;> exact fun w => by kernel_rfl
                      have a2 : ∀ w, (binOp BinOp.add 3 (.int .i64 x) (.int .i64 2)).run Tryd.prog w = .ok (.int .i64 ((x : Int) + 2)) w := by
                        have hq : x = 0 ∨ x = 1 ∨ x = 2 ∨ x = 3 ∨ x = 4 := by omega
                        rcases hq with rfl | rfl | rfl | rfl | rfl <;> exact fun w => by kernel_rfl
                      have E1 := Lib.hid e1
                      have E2 := Lib.hid e2
                      have A1 := Lib.hid a1
                      have A2 := Lib.hid a2
                      clear hx1 hx2 hz0 hz1 hz2 hz e1 e2 a1 a2
                      go_wp2_with fail
                      refine region_quiet_tail 26 (CQ3 w (cE m u (x + 5 * y)) (kcl v) m) (by kernel_rfl) (by kernel_rfl) H1.out.drew ?_
                      simp only [List.take_succ_cons, List.take_zero, List.drop_succ_cons, List.drop_zero]
                      with_reducible refine q_val (.int .i64 (x : Nat)) (by kernel_rfl) (fun _ _ => by kernel_rfl) ?_
                      with_reducible refine q_val (.int .i64 (y : Nat)) (by kernel_rfl) (fun _ _ => by kernel_rfl) ?_
                      with_reducible refine q_val (.int .i64 (x : Nat)) (by kernel_rfl) (fun _ _ => by kernel_rfl) ?_
                      with_reducible refine q_val (.int .i64 (y : Nat)) (by kernel_rfl) (fun _ _ => by kernel_rfl) ?_
                      with_reducible refine q_v (Instr.indexAt 49 (.pointer (some ⟨w.heap.size + 1 + 1 + 1, 0, none⟩)) (.int .i64 (x : Nat))) (.pointer (some ⟨w.heap.size + 1 + 1 + 1, 5 * x, none⟩)) (by kernel_rfl) (by kernel_rfl) (fun wz _ => ix25 (w.heap.size + 1 + 1 + 1) x HX.out wz) ?_
                      with_reducible refine q_v (Instr.indexAt 48 (.pointer (some ⟨w.heap.size + 1 + 1 + 1, 5 * x, none⟩)) (.int .i64 (y : Nat))) (.pointer (some ⟨w.heap.size + 1 + 1 + 1, 5 * x + y, none⟩)) (by kernel_rfl) (by kernel_rfl) (fun wz _ => ix5 (w.heap.size + 1 + 1 + 1) (5 * x) y HY.out wz) ?_
                      with_reducible refine q_load 34 (.tmp 115) (.pointer (some ⟨w.heap.size + 1 + 1 + 1, 5 * x + y, none⟩)) (.int .u64 z0) rfl (by kernel_rfl) (by kernel_rfl) (fun _ h => h.ldb x y HX.out HY.out _ HZ.out.1) ?_
                      with_reducible refine q_val (.int .i64 (x : Nat)) (by kernel_rfl) (fun _ _ => by kernel_rfl) ?_
                      with_reducible refine q_v (binOp BinOp.add 3 (.int .i64 x) (.int .i64 1)) (.int .i64 ((x : Int) + 1)) (by kernel_rfl) (by kernel_rfl) (fun wz _ => A1.out wz) ?_
                      with_reducible refine q_v (binOp BinOp.rem 3 (.int .i64 ((x : Int) + 1)) (.int .i64 5)) (.int .i64 (x1 : Nat)) (by kernel_rfl) (by kernel_rfl) (fun wz _ => E1.out wz) ?_
                      with_reducible refine q_val (.int .i64 (y : Nat)) (by kernel_rfl) (fun _ _ => by kernel_rfl) ?_
                      with_reducible refine q_v (Instr.indexAt 49 (.pointer (some ⟨w.heap.size + 1 + 1 + 1, 0, none⟩)) (.int .i64 (x1 : Nat))) (.pointer (some ⟨w.heap.size + 1 + 1 + 1, 5 * x1, none⟩)) (by kernel_rfl) (by kernel_rfl) (fun wz _ => ix25 (w.heap.size + 1 + 1 + 1) x1 HX1.out wz) ?_
                      with_reducible refine q_v (Instr.indexAt 48 (.pointer (some ⟨w.heap.size + 1 + 1 + 1, 5 * x1, none⟩)) (.int .i64 (y : Nat))) (.pointer (some ⟨w.heap.size + 1 + 1 + 1, 5 * x1 + y, none⟩)) (by kernel_rfl) (by kernel_rfl) (fun wz _ => ix5 (w.heap.size + 1 + 1 + 1) (5 * x1) y HY.out wz) ?_
                      with_reducible refine q_load 34 (.tmp 122) (.pointer (some ⟨w.heap.size + 1 + 1 + 1, 5 * x1 + y, none⟩)) (.int .u64 z1) rfl (by kernel_rfl) (by kernel_rfl) (fun _ h => h.ldb x1 y HX1.out HY.out _ HZ.out.2.1) ?_
                      with_reducible refine q_val (.int .u64 (bits .xor .u64 IntKind.u64.max z1)) (by kernel_rfl) (fun _ _ => by kernel_rfl) ?_
                      with_reducible refine q_val (.int .i64 (x : Nat)) (by kernel_rfl) (fun _ _ => by kernel_rfl) ?_
                      with_reducible refine q_v (binOp BinOp.add 3 (.int .i64 x) (.int .i64 2)) (.int .i64 ((x : Int) + 2)) (by kernel_rfl) (by kernel_rfl) (fun wz _ => A2.out wz) ?_
                      with_reducible refine q_v (binOp BinOp.rem 3 (.int .i64 ((x : Int) + 2)) (.int .i64 5)) (.int .i64 (x2 : Nat)) (by kernel_rfl) (by kernel_rfl) (fun wz _ => E2.out wz) ?_
                      with_reducible refine q_val (.int .i64 (y : Nat)) (by kernel_rfl) (fun _ _ => by kernel_rfl) ?_
                      with_reducible refine q_v (Instr.indexAt 49 (.pointer (some ⟨w.heap.size + 1 + 1 + 1, 0, none⟩)) (.int .i64 (x2 : Nat))) (.pointer (some ⟨w.heap.size + 1 + 1 + 1, 5 * x2, none⟩)) (by kernel_rfl) (by kernel_rfl) (fun wz _ => ix25 (w.heap.size + 1 + 1 + 1) x2 HX2.out wz) ?_
                      with_reducible refine q_v (Instr.indexAt 48 (.pointer (some ⟨w.heap.size + 1 + 1 + 1, 5 * x2, none⟩)) (.int .i64 (y : Nat))) (.pointer (some ⟨w.heap.size + 1 + 1 + 1, 5 * x2 + y, none⟩)) (by kernel_rfl) (by kernel_rfl) (fun wz _ => ix5 (w.heap.size + 1 + 1 + 1) (5 * x2) y HY.out wz) ?_
                      with_reducible refine q_load 34 (.tmp 130) (.pointer (some ⟨w.heap.size + 1 + 1 + 1, 5 * x2 + y, none⟩)) (.int .u64 z2) rfl (by kernel_rfl) (by kernel_rfl) (fun _ h => h.ldb x2 y HX2.out HY.out _ HZ.out.2.2) ?_
                      with_reducible refine q_val (.int .u64 (bits .and .u64 (bits .xor .u64 IntKind.u64.max z1) z2)) (by kernel_rfl) (fun _ _ => by kernel_rfl) ?_
                      with_reducible refine q_val (.int .u64 (bits .xor .u64 z0 (bits .and .u64 (bits .xor .u64 IntKind.u64.max z1) z2))) (by kernel_rfl) (fun _ _ => by kernel_rfl) ?_
                      with_reducible refine q_v (Instr.indexAt 49 (.pointer (some ⟨w.heap.size, 0, none⟩)) (.int .i64 (x : Nat))) (.pointer (some ⟨w.heap.size, 5 * x, none⟩)) (by kernel_rfl) (by kernel_rfl) (fun wz _ => ix25 (w.heap.size) x HX.out wz) ?_
                      with_reducible refine q_v (Instr.indexAt 48 (.pointer (some ⟨w.heap.size, 5 * x, none⟩)) (.int .i64 (y : Nat))) (.pointer (some ⟨w.heap.size, 5 * x + y, none⟩)) (by kernel_rfl) (by kernel_rfl) (fun wz _ => ix5 (w.heap.size) (5 * x) y HY.out wz) ?_
                      with_reducible refine wpQuiet_nil ?_
                      intro w1 hCx
                      simp only [Act.put, List.setIfInBounds_toArray, List.set_cons_succ, List.set_cons_zero]
                      rw [HN.out.2]
                      have hsa := hCx.seta x y HX.out HY.out z
                      have co := (cell_of_row w1 _ (5 * x + y) _ _ _ hCx.q.r0).trans (ar_at _ _ _ _ (by omega))
                      have fo := frozen_of_row _ _ (5 * x + y) _ _ hCx.q.r0
                      rw [HN.out.1] at hsa
                      have H2 := Lib.hid hsa
                      clear hCx H1 hsa
                      go_wp2_with fail
                      go_roundw
                      case rel => exact ⟨x + 1, by omega, by go_num, by rw [show x + 1 + 5 * y = x + 5 * y + 1 by omega]; exact H2⟩
                      case measure => simp [intOf]; omega
                    · obtain rfl : x = 5 := by omega
                      have H2 := Lib.hid (show CQ3 w (cE m u (5 * (y + 1))) (kcl v) m wr from by rw [show 5 * (y + 1) = 5 + 5 * y by omega]; exact H1.out)
                      clear H1
                      go_wp2_with fail
                      go_roundw
                      case rel => exact ⟨y + 1, by omega, by go_num, H2⟩
                      case measure => simp [intOf]; omega
                · obtain rfl : y = 5 := by omega
                  have H1 := Lib.hid (H.out.to (cE_25 m u))
                  have HR := Lib.hid (show kch (kmv (kth v)) = kch m from by rw [HU.out.1, HM.out])
                  clear H
                  obtain ⟨q, hq⟩ : ∃ q, tp (kch m) = q := ⟨_, rfl⟩
                  have HE := Lib.hid (show tp (kch (kmv (kth v))) = q from by rw [HR.out, hq])
                  have h0 := H1.out.q.r0
                  have h1 := H1.out.q.r1
                  rw [hq] at h0
                  have HB := Lib.hid (And.intro H1.out.q.old (And.intro h0 h1))
                  clear h0 h1 H1 hq HR
                  have HI : Hid ((Tryd.prog.info? 49).map (·.size) = some (ar .u64 25 q).size) := Lib.hid (by rw [ar_size]; exact info25)
                  go_wp2_with (first | (refine wpList_load_row rfl 49 _ rfl w.heap.size rfl 49 _ (0, 0) _ HB.out.2.1 Tryd.underlying49 rfl HI.out ?_) | (refine wpList_store_row rfl 49 _ _ rfl (w.heap.size + 1) (ar .u64 25 q) rfl rfl 49 _ HB.out.2.2 HI.out (by rw [ar_size, ar_size]) (ar_one _ _ _) ?_))
                  refine bodyPost_ret (v := .agg (ar .u64 25 q)) (results_cell_row (p := 2) rfl _ _ (w.heap.size + 1) 49 _ (0, 0) _ rfl (setRow_heap _ _ _ _ _ _ HB.out.2.2) Tryd.underlying49 rfl HI.out) rfl ⟨by rw [HE.out], below_setRow HB.out.1 (by omega) _⟩
end Go.Proofs.YtcmpnnfnkcmpcaaDoor

/- BLAKE2b: what beginning comes to. -/
import Derived.Test.YtoeomlmnejhgpaaDoorBOrder
import Derived.Laws.CopyRow
namespace Go.Proofs.YtoeomlmnejhgpaaDoor
open Go.RowKit

/-- The first 64 bits of the fractions of the roots, from the place 8 on. -/
def ivT (j : Nat) : Int := [0, 0, 0, 0, 0, 0, 0, 0, 7640891576956012808, 13503953896175478587, 4354685564936845355, 11912009170470909681, 5840696475078001361, 11170449401992604703, 2270897969802886507, 6620516959819538809].getD j 0
def bgh (h : Nat → Int) (j : Nat) : Int := if j < 8 then h j else ivT j
/-- The sixteen numbers ahead of all rounds. -/
def bgn (h t : Nat → Int) (last : Bool) : Nat → Int :=
  let v := updI (updI (bgh h) 12 (bits .xor .u64 (ivT 12) (t 0))) 13 (bits .xor .u64 (ivT 13) (t 1))
  if last then updI v 14 (bits .xor .u64 IntKind.u64.max (ivT 14)) else v
theorem ivT_row : ar .u64 16 ivT = #[.int .u64 0, .int .u64 0, .int .u64 0, .int .u64 0, .int .u64 0, .int .u64 0, .int .u64 0, .int .u64 0, .int .u64 7640891576956012808, .int .u64 13503953896175478587, .int .u64 4354685564936845355, .int .u64 11912009170470909681, .int .u64 5840696475078001361, .int .u64 11170449401992604703, .int .u64 2270897969802886507, .int .u64 6620516959819538809] := by kernel_rfl
theorem wpList_val {P : Program} {ops : Array Oper} {rest : List Oper} {o : Oper} {a : Act} {w w' : World} {Q : Exit → Act → World → Prop} (hgd : o.guard = none) (v : Value) (hr : (execOp a.eval o).run P w = .ok (.value v) w')
    (h : wpList P ops Q rest (a.put o.dst v) w') : wpList P ops Q (o :: rest) a w :=
  wpList_plain hgd fun _ hK => by
    unfold Oper.wp
    rw [hr]
    exact hK _ _ h
theorem wpList_sem {P : Program} {ops : Array Oper} {rest : List Oper} {o : Oper} {a : Act} {w w' : World} {Q : Exit → Act → World → Prop} (hgd : o.guard = none) (s : Sem Value) (v : Value) (ho : execOp a.eval o = (do let x ← s; pure (.value x))) (hr : s.run P w = .ok v w')
    (h : wpList P ops Q rest (a.put o.dst v) w') : wpList P ops Q (o :: rest) a w :=
  wpList_val hgd v (by rw [ho]; simp only [Sem.run_bind, hr, Result.andThen_ok, Sem.run_pure]) h
theorem q_sem2 {P : Program} {ops : Array Oper} {C : World → Prop} {Q : Act → Prop} {a : Act} {o : Oper} {rest : List Oper} (s : Sem Value) (v : Value) (hw : Region.wanted o (yielded ops a.tmps) = true) (ho : execOp a.eval o = (do let x ← s; pure (.value x))) (hr : ∀ w, C w → s.run P w = .ok v w) (h : wpQuiet P ops C Q rest (a.put o.dst v)) : wpQuiet P ops C Q (o :: rest) a :=
  q_val v hw (fun w hC => by rw [ho]; simp only [Sem.run_bind, hr w hC, Result.andThen_ok, Sem.run_pure]) h
theorem info1u : (Tryd.prog.info? 34).map (·.size) = some 1 := by kernel_rfl
theorem info8u : (Tryd.prog.info? 54).map (·.size) = some 8 := by kernel_rfl
theorem infoNu : (Tryd.prog.info? 99).map (·.size) = some 16 := by kernel_rfl
theorem bgh_row (h : Nat → Int) : ((ar .u64 16 ivT).toList.take 0 ++ (ar .u64 8 h).toList ++ (ar .u64 16 ivT).toList.drop (0 + (ar .u64 8 h).toList.length)).toArray = ar .u64 16 (bgh h) := by
  kernel_rfl
theorem copy_8 {w : World} {V H : Nat} {h : Nat → Int} (hV : w.heap[V]? = some (.cells (ar .u64 16 ivT) 99 (0, 0))) (hH : w.heap[H]? = some (.cells (ar .u64 8 h) 54 (0, 0))) :
    (Builtin.copy_ #[71, 71] 3 #[.slice (some ⟨V, 0, none⟩) 16 16, .slice (some ⟨H, 0, none⟩) 8 8]).run Tryd.prog w = .ok (.int .i64 8) (w.setRow V (ar .u64 16 (bgh h))) := by
  have hr := run_copy_row (P := Tryd.prog) w 71 71 3 34 V 0 16 16 ⟨H, 0, none⟩ 8 8 (ar .u64 16 ivT) 99 (ar .u64 8 h).toList Tryd.underlying71 info1u hV (by rw [Array.length_toList, ar_size]; rfl) (fun j v hv => by
    have hj : j < 8 := by
      have := (List.getElem?_eq_some_iff.1 hv).1
      rwa [Array.length_toList, ar_size] at this
    rw [Addr.add_lit, Nat.zero_add]
    refine (cell_of_row w _ j _ _ _ hH).trans ?_
    rw [← Array.getElem?_toList]
    exact hv) (by rw [Array.length_toList, ar_size, ar_size]; omega) (fun v hv => by
    have h1 := ar_one .u64 8 h
    rw [Array.all_eq_true_iff_forall_mem] at h1
    exact h1 v (by simpa using hv))
  rw [hr, bgh_row, Array.length_toList, ar_size]
  rfl
/-- The worlds of beginning. -/
structure CBg (w : World) (h t v : Nat → Int) (wx : World) : Prop where
  old : Below w.heap.size w wx
  r0 : wx.heap[w.heap.size]? = some (.cells (ar .u64 8 h) 54 (0, 0))
  r1 : wx.heap[w.heap.size + 1]? = some (.cells (ar .u64 2 t) 56 (0, 0))
  r2 : wx.heap[w.heap.size + 1 + 1]? = some (.cells #[.int .u64 0, .int .u64 0, .int .u64 0, .int .u64 0, .int .u64 0, .int .u64 0, .int .u64 0, .int .u64 0, .int .u64 0, .int .u64 0, .int .u64 0, .int .u64 0, .int .u64 0, .int .u64 0, .int .u64 0, .int .u64 0] 99 (0, 0))
  r3 : wx.heap[w.heap.size + 1 + 1 + 1]? = some (.cells (ar .u64 16 v) 99 (0, 0))
theorem CBg.drew {w wx : World} {h t v : Nat → Int} (c : CBg w h t v wx) : CBg w h t v wx.drew := ⟨c.old.drew, c.r0, c.r1, c.r2, c.r3⟩
theorem CBg.row {w wx : World} {h t v v' : Nat → Int} (c : CBg w h t v wx) : CBg w h t v' (wx.setRow (w.heap.size + 1 + 1 + 1) (ar .u64 16 v')) :=
  ⟨below_setRow c.old (by omega) _, (setRow_other _ _ _ _ (by omega)).trans c.r0, (setRow_other _ _ _ _ (by omega)).trans c.r1, (setRow_other _ _ _ _ (by omega)).trans c.r2, setRow_heap _ _ _ _ _ _ c.r3⟩
theorem CBg.set {w wx : World} {h t v : Nat → Int} (c : CBg w h t v wx) (j : Nat) (hj : j < 16) (y : Int) : CBg w h t (updI v j y) (wx.setCell ⟨w.heap.size + 1 + 1 + 1, j, none⟩ (.int .u64 y)) :=
  ⟨c.old.setCell (by show w.heap.size ≤ w.heap.size + 1 + 1 + 1; omega) _, (heap_setCell_other _ _ _ _ (by show w.heap.size ≠ w.heap.size + 1 + 1 + 1; omega)).trans c.r0, (heap_setCell_other _ _ _ _ (by show w.heap.size + 1 ≠ w.heap.size + 1 + 1 + 1; omega)).trans c.r1, (heap_setCell_other _ _ _ _ (by show w.heap.size + 1 + 1 ≠ w.heap.size + 1 + 1 + 1; omega)).trans c.r2, (heap_setCell_same _ _ _ _ _ _ c.r3).trans (by rw [ar_set _ _ _ _ _ hj])⟩
theorem slice_all16 (V : Nat) (w : World) : (Instr.sliceAt 99 (.pointer (some ⟨V, 0, none⟩)) none none none).run Tryd.prog w = .ok (.slice (some ⟨V, 0, none⟩) 16 16) w := by
  go_simp
theorem slice_all8 (V : Nat) (w : World) : (Instr.sliceAt 54 (.pointer (some ⟨V, 0, none⟩)) none none none).run Tryd.prog w = .ok (.slice (some ⟨V, 0, none⟩) 8 8) w := by
  go_simp
set_option maxRecDepth 100000 in
set_option maxHeartbeats 4000000 in
-- WHAT beginning COMES TO.
theorem begin_any (h t : Nat → Int) (last : Bool) (w : World) : Calls Tryd.prog 64 #[.agg (ar .u64 8 h), .agg (ar .u64 2 t), .bool last] w fun e w' => e = .returned (.agg (ar .u64 16 (bgn h t last))) ∧ Below w.heap.size w w' := by
  have H4 := Lib.hid (heap4 w (.cells (ar .u64 8 h) 54) (.cells (ar .u64 2 t) 56) (.cells #[.int .u64 0, .int .u64 0, .int .u64 0, .int .u64 0, .int .u64 0, .int .u64 0, .int .u64 0, .int .u64 0, .int .u64 0, .int .u64 0, .int .u64 0, .int .u64 0, .int .u64 0, .int .u64 0, .int .u64 0, .int .u64 0] 99) (.cells #[.int .u64 0, .int .u64 0, .int .u64 0, .int .u64 0, .int .u64 0, .int .u64 0, .int .u64 0, .int .u64 0, .int .u64 0, .int .u64 0, .int .u64 0, .int .u64 0, .int .u64 0, .int .u64 0, .int .u64 0, .int .u64 0] 99))
  have HV : Hid ((.agg #[.int .u64 0, .int .u64 0, .int .u64 0, .int .u64 0, .int .u64 0, .int .u64 0, .int .u64 0, .int .u64 0, .int .u64 7640891576956012808, .int .u64 13503953896175478587, .int .u64 4354685564936845355, .int .u64 11912009170470909681, .int .u64 5840696475078001361, .int .u64 11170449401992604703, .int .u64 2270897969802886507, .int .u64 6620516959819538809] : Value) = .agg (ar .u64 16 ivT)) := Lib.hid (by rw [ivT_row])
  go_enter Tryd.func64, Tryd.ntmps64
  have H5 := Lib.hid (show CBg w h t ivT (((((w.alloc (.cells (ar .u64 8 h) 54)).alloc (.cells (ar .u64 2 t) 56)).alloc (.cells #[.int .u64 0, .int .u64 0, .int .u64 0, .int .u64 0, .int .u64 0, .int .u64 0, .int .u64 0, .int .u64 0, .int .u64 0, .int .u64 0, .int .u64 0, .int .u64 0, .int .u64 0, .int .u64 0, .int .u64 0, .int .u64 0] 99)).alloc (.cells #[.int .u64 0, .int .u64 0, .int .u64 0, .int .u64 0, .int .u64 0, .int .u64 0, .int .u64 0, .int .u64 0, .int .u64 0, .int .u64 0, .int .u64 0, .int .u64 0, .int .u64 0, .int .u64 0, .int .u64 0, .int .u64 0] 99)).setRow (w.heap.size + 1 + 1 + 1) (ar .u64 16 ivT)) from ⟨below_setRow (by go_grown) (by omega) _, (setRow_other _ _ _ _ (by omega)).trans H4.out.1, (setRow_other _ _ _ _ (by omega)).trans H4.out.2.1, (setRow_other _ _ _ _ (by omega)).trans H4.out.2.2.1, setRow_heap _ _ _ _ _ _ H4.out.2.2.2⟩)
  go_wp2_with (refine wpList_store_row rfl 99 _ _ rfl (w.heap.size + 1 + 1 + 1) (ar .u64 16 ivT) rfl HV.out 99 _ H4.out.2.2.2 (by rw [ar_size]; exact infoNu) (by rw [ar_size]; rfl) (ar_one _ _ _) ?_)
  refine region_quiet_tail 2 (CBg w h t ivT) (by kernel_rfl) (by kernel_rfl) H5.out.drew ?_
  simp only [List.take_succ_cons, List.take_zero, List.drop_succ_cons, List.drop_zero]
  with_reducible refine q_sem2 (Instr.sliceAt 99 (.pointer (some ⟨w.heap.size + 1 + 1 + 1, 0, none⟩)) none none none) (.slice (some ⟨w.heap.size + 1 + 1 + 1, 0, none⟩) 16 16) (by kernel_rfl) (by kernel_rfl) (fun w' _ => slice_all16 _ w') ?_
  with_reducible refine q_sem2 (Instr.sliceAt 54 (.pointer (some ⟨w.heap.size, 0, none⟩)) none none none) (.slice (some ⟨w.heap.size, 0, none⟩) 8 8) (by kernel_rfl) (by kernel_rfl) (fun w' _ => slice_all8 _ w') ?_
  with_reducible refine wpQuiet_nil ?_
  intro wx hC
  have HC := Lib.hid hC
  clear hC H4 H5 HV
  refine wpList_sem rfl (Builtin.copy_ #[71, 71] 3 #[.slice (some ⟨w.heap.size + 1 + 1 + 1, 0, none⟩) 16 16, .slice (some ⟨w.heap.size, 0, none⟩) 8 8]) (.int .i64 8) (by kernel_rfl) (copy_8 HC.out.r3 HC.out.r0) ?_
  simp only [Act.put, List.setIfInBounds_toArray, List.set_cons_succ, List.set_cons_zero]
  obtain ⟨w2, hw2⟩ : ∃ w2, wx.setRow (w.heap.size + 1 + 1 + 1) (ar .u64 16 (bgh h)) = w2 := ⟨_, rfl⟩
  have H2 := Lib.hid (show CBg w h t (bgh h) w2 from by rw [← hw2]; exact HC.out.row)
  rw [hw2]
  clear hw2 HC
  have c12 : w2.cell? ⟨w.heap.size + 1 + 1 + 1, 12, none⟩ = some (.int .u64 (ivT 12)) := cell_row16 H2.out.r3 12 (by omega)
  have f12 := frozen_of_row w2 _ 12 _ _ H2.out.r3
  have t0 : w2.cell? ⟨w.heap.size + 1, 0, none⟩ = some (.int .u64 (t 0)) := (cell_of_row _ _ 0 _ _ _ H2.out.r1).trans (ar_at _ _ _ _ (by omega))
  have H3 := Lib.hid (H2.out.set 12 (by omega) (bits .xor .u64 (ivT 12) (t 0)))
  have c13 : (w2.setCell ⟨w.heap.size + 1 + 1 + 1, 12, none⟩ (.int .u64 (bits .xor .u64 (ivT 12) (t 0)))).cell? ⟨w.heap.size + 1 + 1 + 1, 13, none⟩ = some (.int .u64 (ivT 13)) := cell_row16 H3.out.r3 13 (by omega)
  have f13 := frozen_of_row (w2.setCell ⟨w.heap.size + 1 + 1 + 1, 12, none⟩ (.int .u64 (bits .xor .u64 (ivT 12) (t 0)))) _ 13 _ _ H3.out.r3
  have t1 : (w2.setCell ⟨w.heap.size + 1 + 1 + 1, 12, none⟩ (.int .u64 (bits .xor .u64 (ivT 12) (t 0)))).cell? ⟨w.heap.size + 1, 1, none⟩ = some (.int .u64 (t 1)) := (cell_of_row _ _ 1 _ _ _ H3.out.r1).trans (ar_at _ _ _ _ (by omega))
  have H4 := Lib.hid (H3.out.set 13 (by omega) (bits .xor .u64 (ivT 13) (t 1)))
  clear H2 H3
  cases last with
  | false =>
    have hr : updI (updI (bgh h) 12 (bits .xor .u64 (ivT 12) (t 0))) 13 (bits .xor .u64 (ivT 13) (t 1)) = bgn h t false := rfl
    rw [hr] at H4
    obtain ⟨ro, hro⟩ : ∃ ro, bgn h t false = ro := ⟨_, rfl⟩
    rw [hro] at H4
    have HRO := Lib.hid hro
    clear hr hro
    go_wp2_with (first | (refine wpList_load_row rfl 99 _ rfl (w.heap.size + 1 + 1 + 1) rfl 99 (ar .u64 16 ro) (0, 0) _ (by exact H4.out.r3) Tryd.underlying99 rfl (by rw [ar_size]; exact infoNu) ?_) | (refine wpList_store_row rfl 99 _ _ rfl (w.heap.size + 1 + 1) (ar .u64 16 ro) rfl rfl 99 #[.int .u64 0, .int .u64 0, .int .u64 0, .int .u64 0, .int .u64 0, .int .u64 0, .int .u64 0, .int .u64 0, .int .u64 0, .int .u64 0, .int .u64 0, .int .u64 0, .int .u64 0, .int .u64 0, .int .u64 0, .int .u64 0] (by exact H4.out.r2) (by rw [ar_size]; exact infoNu) (by rw [ar_size]; rfl) (ar_one _ _ _) ?_))
    (try simp only [Act.put, List.setIfInBounds_toArray, List.set_cons_succ, List.set_cons_zero])
    refine bodyPost_ret (v := .agg (ar .u64 16 ro)) (results_cell_row (p := 6) rfl _ _ (w.heap.size + 1 + 1) 99 (ar .u64 16 ro) (0, 0) _ rfl (setRow_heap _ _ _ _ _ _ H4.out.r2) Tryd.underlying99 rfl (by rw [ar_size]; exact infoNu)) rfl ⟨?_, below_setRow H4.out.old (by omega) _⟩
    rw [HRO.out]
  | true =>
    have c14 : ((w2.setCell ⟨w.heap.size + 1 + 1 + 1, 12, none⟩ (.int .u64 (bits .xor .u64 (ivT 12) (t 0)))).setCell ⟨w.heap.size + 1 + 1 + 1, 13, none⟩ (.int .u64 (bits .xor .u64 (ivT 13) (t 1)))).cell? ⟨w.heap.size + 1 + 1 + 1, 14, none⟩ = some (.int .u64 (ivT 14)) := cell_row16 H4.out.r3 14 (by omega)
    have f14 := frozen_of_row ((w2.setCell ⟨w.heap.size + 1 + 1 + 1, 12, none⟩ (.int .u64 (bits .xor .u64 (ivT 12) (t 0)))).setCell ⟨w.heap.size + 1 + 1 + 1, 13, none⟩ (.int .u64 (bits .xor .u64 (ivT 13) (t 1)))) _ 14 _ _ H4.out.r3
    have H5 := Lib.hid (H4.out.set 14 (by omega) (bits .xor .u64 IntKind.u64.max (ivT 14)))
    have hr : updI (updI (updI (bgh h) 12 (bits .xor .u64 (ivT 12) (t 0))) 13 (bits .xor .u64 (ivT 13) (t 1))) 14 (bits .xor .u64 IntKind.u64.max (ivT 14)) = bgn h t true := rfl
    rw [hr] at H5
    obtain ⟨ro, hro⟩ : ∃ ro, bgn h t true = ro := ⟨_, rfl⟩
    rw [hro] at H5
    have HRO := Lib.hid hro
    clear hr hro H4
    go_wp2_with (first | (refine wpList_load_row rfl 99 _ rfl (w.heap.size + 1 + 1 + 1) rfl 99 (ar .u64 16 ro) (0, 0) _ (by exact H5.out.r3) Tryd.underlying99 rfl (by rw [ar_size]; exact infoNu) ?_) | (refine wpList_store_row rfl 99 _ _ rfl (w.heap.size + 1 + 1) (ar .u64 16 ro) rfl rfl 99 #[.int .u64 0, .int .u64 0, .int .u64 0, .int .u64 0, .int .u64 0, .int .u64 0, .int .u64 0, .int .u64 0, .int .u64 0, .int .u64 0, .int .u64 0, .int .u64 0, .int .u64 0, .int .u64 0, .int .u64 0, .int .u64 0] (by exact H5.out.r2) (by rw [ar_size]; exact infoNu) (by rw [ar_size]; rfl) (ar_one _ _ _) ?_))
    (try simp only [Act.put, List.setIfInBounds_toArray, List.set_cons_succ, List.set_cons_zero])
    refine bodyPost_ret (v := .agg (ar .u64 16 ro)) (results_cell_row (p := 6) rfl _ _ (w.heap.size + 1 + 1) 99 (ar .u64 16 ro) (0, 0) _ rfl (setRow_heap _ _ _ _ _ _ H5.out.r2) Tryd.underlying99 rfl (by rw [ar_size]; exact infoNu)) rfl ⟨?_, below_setRow H5.out.old (by omega) _⟩
    rw [HRO.out]
end Go.Proofs.YtoeomlmnejhgpaaDoor

/- BLAKE2b: what the reference's mix comes to. -/
import Derived.Test.YtoeomlmnejhgpaaDoorBF
import Derived.Test.YtoeomlmnejhgpaaDoorTie0
namespace Go.Proofs.YtoeomlmnejhgpaaDoor
open Go.RowKit

theorem load_i64 (g j : Nat) (y : Nat) (w : World) (h : w.cell? ⟨g, j, none⟩ = some (.int .i64 y)) : (Instr.loadAt 3 (.pointer (some ⟨g, j, none⟩))).run Tryd.prog w = .ok (.int .i64 y) w := by
  go_simp
/-- Four places as a list. -/
structure L4 (w : World) (g a b c d : Nat) : Prop where
  lt : g < w.heap.size
  c0 : w.cell? ⟨g, 0, none⟩ = some (.int .i64 a)
  c1 : w.cell? ⟨g, 1, none⟩ = some (.int .i64 b)
  c2 : w.cell? ⟨g, 2, none⟩ = some (.int .i64 c)
  c3 : w.cell? ⟨g, 3, none⟩ = some (.int .i64 d)
theorem L4.below {w w' : World} {g a b c d : Nat} (h : L4 w g a b c d) (hb : Below w.heap.size w w') : L4 w' g a b c d :=
  ⟨Nat.lt_of_lt_of_le h.lt hb.size, (hb.cell (p := ⟨g, 0, none⟩) h.lt).trans h.c0, (hb.cell (p := ⟨g, 1, none⟩) h.lt).trans h.c1, (hb.cell (p := ⟨g, 2, none⟩) h.lt).trans h.c2, (hb.cell (p := ⟨g, 3, none⟩) h.lt).trans h.c3⟩
/-- The worlds of the reference's mix. -/
structure CM (w : World) (v : Nat → Int) (wx : World) : Prop where
  old : Below w.heap.size w wx
  r0 : wx.heap[w.heap.size]? = some (.cells (ar .u64 16 v) 55 (0, 0))
  r1 : wx.heap[w.heap.size + 1]? = some (.cells #[.int .u64 0, .int .u64 0, .int .u64 0, .int .u64 0, .int .u64 0, .int .u64 0, .int .u64 0, .int .u64 0, .int .u64 0, .int .u64 0, .int .u64 0, .int .u64 0, .int .u64 0, .int .u64 0, .int .u64 0, .int .u64 0] 55 (0, 0))
theorem CM.drew {w wx : World} {v : Nat → Int} (c : CM w v wx) : CM w v wx.drew := ⟨c.old.drew, c.r0, c.r1⟩
theorem CM.at' {w wx : World} {v : Nat → Int} (c : CM w v wx) (j : Nat) (hj : j < 16) (y : Int) (hy : v j = y) : (Instr.loadAt 34 (.pointer (some ⟨w.heap.size, j, none⟩))).run Tryd.prog wx = .ok (.int .u64 y) wx := by rw [← hy]; exact load_u64 _ _ _ _ (cell_row16 c.r0 j hj)
theorem CM.set {w wx : World} {v : Nat → Int} (c : CM w v wx) (j : Nat) (hj : j < 16) (y : Int) : CM w (updI v j y) (wx.setCell ⟨w.heap.size, j, none⟩ (.int .u64 y)) :=
  ⟨c.old.setCell (by show w.heap.size ≤ w.heap.size; omega) _, (heap_setCell_same _ _ _ _ _ _ c.r0).trans (by rw [ar_set _ _ _ _ _ hj]), (heap_setCell_other _ _ _ _ (by show w.heap.size + 1 ≠ w.heap.size; omega)).trans c.r1⟩
theorem wpList_put {P : Program} {ops : Array Oper} {rest : List Oper} {o : Oper} {a : Act} {w w' : World} {Q : Exit → Act → World → Prop} (hgd : o.guard = none) (t : TypeId) (p q : Operand) (ho : o.op = .store t p q) (u v : Value) (hp : a.eval p = u) (hq : a.eval q = v)
    (hr : (Instr.storeAt t u v).run P w = .ok () w') (h : wpList P ops Q rest (a.put o.dst undef) w') : wpList P ops Q (o :: rest) a w :=
  wpList_plain hgd fun _ hK => by
    unfold Oper.wp
    unfold execOp
    simp only [ho, hp, hq, Sem.run_bind, hr, Result.andThen_ok, Sem.run_pure]
    exact hK _ _ h
theorem store_u64 (g j : Nat) (y : Int) (u : Value) (w : World) (h : w.cell? ⟨g, j, none⟩ = some u) (hf : w.frozen? ⟨g, j, none⟩ = false) : (Instr.storeAt 34 (.pointer (some ⟨g, j, none⟩)) (.int .u64 y)).run Tryd.prog w = .ok () (w.setCell ⟨g, j, none⟩ (.int .u64 y)) := by
  go_simp
theorem CM.store {w wx : World} {v : Nat → Int} (c : CM w v wx) (j : Nat) (hj : j < 16) (y : Int) : (Instr.storeAt 34 (.pointer (some ⟨w.heap.size, j, none⟩)) (.int .u64 y)).run Tryd.prog wx = .ok () (wx.setCell ⟨w.heap.size, j, none⟩ (.int .u64 y)) :=
  store_u64 _ _ _ _ _ (cell_row16 c.r0 j hj) (frozen_of_row _ _ j _ _ c.r0)
theorem run_st {P : Program} {a : Act} {o : Oper} {w w' : World} (t : TypeId) (p q : Operand) (u v : Value) (ho : o.op = .store t p q) (hp : a.eval p = u) (hq : a.eval q = v) (h : (Instr.storeAt t u v).run P w = .ok () w') : (execOp a.eval o).run P w = .ok .skip w' := by
  unfold execOp
  rw [ho]
  simp only [hp, hq, Sem.run_bind, h, Result.andThen_ok, Sem.run_pure]
/-- The worlds while the four are laid. -/
structure CN (w : World) (v : Nat → Int) (a b c d : Nat) (wx : World) : Prop where
  old : Below w.heap.size w wx
  r1 : wx.heap[w.heap.size + 1]? = some (.cells #[.int .u64 0, .int .u64 0, .int .u64 0, .int .u64 0, .int .u64 0, .int .u64 0, .int .u64 0, .int .u64 0, .int .u64 0, .int .u64 0, .int .u64 0, .int .u64 0, .int .u64 0, .int .u64 0, .int .u64 0, .int .u64 0] 55 (0, 0))
  row : ∃ f : Nat → Int, wx.heap[w.heap.size]? = some (.cells (ar .u64 16 f) 55 (0, 0)) ∧ ∀ i, i ≠ a → i ≠ b → i ≠ c → i ≠ d → f i = v i
theorem CN.set {w wx : World} {v : Nat → Int} {a b c d : Nat} (h : CN w v a b c d wx) (j : Nat) (hj : j < 16) (hs : j = a ∨ j = b ∨ j = c ∨ j = d) (y : Int) : CN w v a b c d (wx.setCell ⟨w.heap.size, j, none⟩ (.int .u64 y)) := by
  obtain ⟨f, h1, h2⟩ := h.row
  refine ⟨h.old.setCell (by show w.heap.size ≤ w.heap.size; omega) _, (heap_setCell_other _ _ _ _ (by show w.heap.size + 1 ≠ w.heap.size; omega)).trans h.r1, updI f j y, (heap_setCell_same _ _ _ _ _ _ h1).trans (by rw [ar_set _ _ _ _ _ hj]), fun i ia ib ic id => ?_⟩
  unfold updI
  rw [if_neg (by omega)]
  exact h2 i ia ib ic id
theorem CN.store {w wx : World} {v : Nat → Int} {a b c d : Nat} (h : CN w v a b c d wx) (j : Nat) (hj : j < 16) (y : Int) : (Instr.storeAt 34 (.pointer (some ⟨w.heap.size, j, none⟩)) (.int .u64 y)).run Tryd.prog wx = .ok () (wx.setCell ⟨w.heap.size, j, none⟩ (.int .u64 y)) := by
  obtain ⟨f, h1, h2⟩ := h.row
  exact store_u64 _ _ _ _ _ (cell_row16 h1 j hj) (frozen_of_row _ _ j _ _ h1)
theorem CN.same {w wx : World} {v : Nat → Int} {a b c d : Nat} (h : CN w v a b c d wx) (j : Nat) (hj : j < 16) (y : Int) : (wx.setCell ⟨w.heap.size, j, none⟩ (.int .u64 y)).cell? ⟨w.heap.size, j, none⟩ = some (.int .u64 y) := by
  obtain ⟨f, h1, h2⟩ := h.row
  exact World.cell?_setCell_same _ _ _ (cell_row16 h1 j hj)
/-- What is laid stays laid. -/
def RQ (V a b c d : Nat) (A B C D : Int) (wa wb : World) : Prop :=
  (wa.cell? ⟨V, a, none⟩ = some (.int .u64 A) → wb.cell? ⟨V, a, none⟩ = some (.int .u64 A)) ∧ (wa.cell? ⟨V, b, none⟩ = some (.int .u64 B) → wb.cell? ⟨V, b, none⟩ = some (.int .u64 B)) ∧ (wa.cell? ⟨V, c, none⟩ = some (.int .u64 C) → wb.cell? ⟨V, c, none⟩ = some (.int .u64 C)) ∧ (wa.cell? ⟨V, d, none⟩ = some (.int .u64 D) → wb.cell? ⟨V, d, none⟩ = some (.int .u64 D))
theorem RQ.refl (V a b c d : Nat) (A B C D : Int) (w : World) : RQ V a b c d A B C D w w := ⟨fun h => h, fun h => h, fun h => h, fun h => h⟩
theorem far_cell {w : World} {V i j : Nat} {y : Int} {u : Value} (h : w.cell? ⟨V, i, none⟩ = some u) (hij : i ≠ j) : (w.setCell ⟨V, j, none⟩ (.int .u64 y)).cell? ⟨V, i, none⟩ = some u := by
  rw [World.cell?_setCell_other _ _ _ _ (by intro e; injection e with _ e2; exact hij e2.symm)]
  exact h
theorem arr_lit2 (t : Array Value) : t = ((List.range t.size).map fun i => t.getD i undef).toArray := by
  apply Array.ext
  · simp
  · intro i h1 h2
    simp [h1]
theorem at16 (V j : Nat) (hj : j < 16) (w : World) : (Instr.indexAt 55 (.pointer (some ⟨V, 0, none⟩)) (.int .i64 j)).run Tryd.prog w = .ok (.pointer (some ⟨V, j, none⟩)) w := by
  have h0 : (0 : Int) ≤ j := by omega
  have h1 : (j : Int) < 16 := by omega
  go_simp
set_option maxRecDepth 100000 in
set_option maxHeartbeats 4000000 in
-- WHAT THE REFERENCE's mix COMES TO.
theorem brmix_any (g a b c d : Nat) (v : Nat → Int) (x y : Int) (ha : a < 16) (hb : b < 16) (hc : c < 16) (hd : d < 16) (hab : a ≠ b) (hac : a ≠ c) (had : a ≠ d) (hbc : b ≠ c) (hbd : b ≠ d) (hcd : c ≠ d) (w : World) (hL : L4 w g a b c d) :
    Calls Tryd.prog 70 #[.agg (ar .u64 16 v), .slice (some ⟨g, 0, none⟩) 4 4, .int .u64 x, .int .u64 y] w fun e w' => e = .returned (.agg (ar .u64 16 (mxv v a b c d x y))) ∧ Below w.heap.size w w' := by
  have HL := Lib.hid hL
  have H0 := Lib.hid (show CM w v ((w.alloc (.cells (ar .u64 16 v) 55)).alloc (.cells #[.int .u64 0, .int .u64 0, .int .u64 0, .int .u64 0, .int .u64 0, .int .u64 0, .int .u64 0, .int .u64 0, .int .u64 0, .int .u64 0, .int .u64 0, .int .u64 0, .int .u64 0, .int .u64 0, .int .u64 0, .int .u64 0] 55)) from ⟨by go_grown, heap_alloc2_old _ _ _, heap_alloc2_new _ _ _⟩)
  clear hL
  go_enter Tryd.func70, Tryd.ntmps70
  obtain ⟨A, hA⟩ : ∃ A, v a = A := ⟨_, rfl⟩
  obtain ⟨B, hB⟩ : ∃ B, v b = B := ⟨_, rfl⟩
  obtain ⟨C, hC⟩ : ∃ C, v c = C := ⟨_, rfl⟩
  obtain ⟨D, hD⟩ : ∃ D, v d = D := ⟨_, rfl⟩
  have HI := Lib.hid (And.intro ha (And.intro hb (And.intro hc hd)))
  go_wp2_with fail
  refine wp_region_quiet (C := CM w v) (by kernel_rfl) (by kernel_rfl) H0.out.drew ?_
  simp only
  with_reducible refine q_val (.slice (some ⟨g, 0, none⟩) 4 4) (by kernel_rfl) (fun _ _ => by kernel_rfl) ?_
  with_reducible refine q_val (.pointer (some ⟨g, 0, none⟩)) (by kernel_rfl) (fun _ _ => by kernel_rfl) ?_
  with_reducible refine q_load 3 (.tmp 14) (.pointer (some ⟨g, 0, none⟩)) (.int .i64 a) rfl (by kernel_rfl) (by kernel_rfl) (fun _ h => load_i64 _ _ _ _ ((h.old.cell (p := ⟨g, 0, none⟩) HL.out.lt).trans HL.out.c0)) ?_
  with_reducible refine q_sem2 (Instr.indexAt 55 (.pointer (some ⟨w.heap.size, 0, none⟩)) (.int .i64 a)) (.pointer (some ⟨w.heap.size, a, none⟩)) (by kernel_rfl) (by kernel_rfl) (fun w' _ => at16 _ _ ha w') ?_
  with_reducible refine q_load 34 (.tmp 16) (.pointer (some ⟨w.heap.size, a, none⟩)) (.int .u64 A) rfl (by kernel_rfl) (by kernel_rfl) (fun _ h => h.at' a ha _ hA) ?_
  with_reducible refine q_val (.slice (some ⟨g, 0, none⟩) 4 4) (by kernel_rfl) (fun _ _ => by kernel_rfl) ?_
  with_reducible refine q_val (.pointer (some ⟨g, 1, none⟩)) (by kernel_rfl) (fun _ _ => by kernel_rfl) ?_
  with_reducible refine q_load 3 (.tmp 19) (.pointer (some ⟨g, 1, none⟩)) (.int .i64 b) rfl (by kernel_rfl) (by kernel_rfl) (fun _ h => load_i64 _ _ _ _ ((h.old.cell (p := ⟨g, 1, none⟩) HL.out.lt).trans HL.out.c1)) ?_
  with_reducible refine q_sem2 (Instr.indexAt 55 (.pointer (some ⟨w.heap.size, 0, none⟩)) (.int .i64 b)) (.pointer (some ⟨w.heap.size, b, none⟩)) (by kernel_rfl) (by kernel_rfl) (fun w' _ => at16 _ _ hb w') ?_
  with_reducible refine q_load 34 (.tmp 21) (.pointer (some ⟨w.heap.size, b, none⟩)) (.int .u64 B) rfl (by kernel_rfl) (by kernel_rfl) (fun _ h => h.at' b hb _ hB) ?_
  with_reducible refine q_val (.slice (some ⟨g, 0, none⟩) 4 4) (by kernel_rfl) (fun _ _ => by kernel_rfl) ?_
  with_reducible refine q_val (.pointer (some ⟨g, 2, none⟩)) (by kernel_rfl) (fun _ _ => by kernel_rfl) ?_
  with_reducible refine q_load 3 (.tmp 24) (.pointer (some ⟨g, 2, none⟩)) (.int .i64 c) rfl (by kernel_rfl) (by kernel_rfl) (fun _ h => load_i64 _ _ _ _ ((h.old.cell (p := ⟨g, 2, none⟩) HL.out.lt).trans HL.out.c2)) ?_
  with_reducible refine q_sem2 (Instr.indexAt 55 (.pointer (some ⟨w.heap.size, 0, none⟩)) (.int .i64 c)) (.pointer (some ⟨w.heap.size, c, none⟩)) (by kernel_rfl) (by kernel_rfl) (fun w' _ => at16 _ _ hc w') ?_
  with_reducible refine q_load 34 (.tmp 26) (.pointer (some ⟨w.heap.size, c, none⟩)) (.int .u64 C) rfl (by kernel_rfl) (by kernel_rfl) (fun _ h => h.at' c hc _ hC) ?_
  with_reducible refine q_val (.slice (some ⟨g, 0, none⟩) 4 4) (by kernel_rfl) (fun _ _ => by kernel_rfl) ?_
  with_reducible refine q_val (.pointer (some ⟨g, 3, none⟩)) (by kernel_rfl) (fun _ _ => by kernel_rfl) ?_
  with_reducible refine q_load 3 (.tmp 29) (.pointer (some ⟨g, 3, none⟩)) (.int .i64 d) rfl (by kernel_rfl) (by kernel_rfl) (fun _ h => load_i64 _ _ _ _ ((h.old.cell (p := ⟨g, 3, none⟩) HL.out.lt).trans HL.out.c3)) ?_
  with_reducible refine q_sem2 (Instr.indexAt 55 (.pointer (some ⟨w.heap.size, 0, none⟩)) (.int .i64 d)) (.pointer (some ⟨w.heap.size, d, none⟩)) (by kernel_rfl) (by kernel_rfl) (fun w' _ => at16 _ _ hd w') ?_
  with_reducible refine q_load 34 (.tmp 31) (.pointer (some ⟨w.heap.size, d, none⟩)) (.int .u64 D) rfl (by kernel_rfl) (by kernel_rfl) (fun _ h => h.at' d hd _ hD) ?_
  with_reducible refine q_val (.int .u64 A) (by kernel_rfl) (fun _ _ => by kernel_rfl) ?_
  with_reducible refine q_val (.int .u64 B) (by kernel_rfl) (fun _ _ => by kernel_rfl) ?_
  with_reducible refine q_val (.int .u64 C) (by kernel_rfl) (fun _ _ => by kernel_rfl) ?_
  with_reducible refine q_val (.int .u64 D) (by kernel_rfl) (fun _ _ => by kernel_rfl) ?_
  with_reducible refine wpQuiet_nil ?_
  intro wx hCx
  have HC := Lib.hid hCx
  clear hCx H0
  simp only [Act.put, List.setIfInBounds_toArray, List.set_cons_succ, List.set_cons_zero]
  have D32 := Lib.hid (rdown_32)
  have D24 := Lib.hid (rdown_24)
  have D16 := Lib.hid (rdown_16)
  have D63 := Lib.hid (rdown_63)
  go_wp2_with fail
  have e0 : IntKind.u64.wrap (IntKind.u64.wrap (A + B) + x) = mxA A B x := by unfold mxA; rw [IntKind.wrap_u64, IntKind.wrap_u64]; omega
  rw [e0]
  obtain ⟨A1, hn0⟩ : ∃ z, mxA A B x = z := ⟨_, rfl⟩
  rw [hn0]
  clear e0
  refine (D32.out _ _).mono ?_
  rintro e w1 ⟨rfl, rfl⟩
  obtain ⟨D2, hn1⟩ : ∃ z, rdn 32 (bits .xor .u64 D A1) = z := ⟨_, rfl⟩
  rw [hn1]
  go_wp2_with fail
  have e2 : IntKind.u64.wrap (C + D2) = mxC C D2 := by unfold mxC; rw [IntKind.wrap_u64]
  rw [e2]
  obtain ⟨C3, hn2⟩ : ∃ z, mxC C D2 = z := ⟨_, rfl⟩
  rw [hn2]
  clear e2
  refine (D24.out _ _).mono ?_
  rintro e w2 ⟨rfl, rfl⟩
  obtain ⟨B4, hn3⟩ : ∃ z, rdn 24 (bits .xor .u64 B C3) = z := ⟨_, rfl⟩
  rw [hn3]
  go_wp2_with fail
  have e4 : IntKind.u64.wrap (IntKind.u64.wrap (A1 + B4) + y) = mxA A1 B4 y := by unfold mxA; rw [IntKind.wrap_u64, IntKind.wrap_u64]; omega
  rw [e4]
  obtain ⟨A5, hn4⟩ : ∃ z, mxA A1 B4 y = z := ⟨_, rfl⟩
  rw [hn4]
  clear e4
  refine (D16.out _ _).mono ?_
  rintro e w3 ⟨rfl, rfl⟩
  obtain ⟨D6, hn5⟩ : ∃ z, rdn 16 (bits .xor .u64 D2 A5) = z := ⟨_, rfl⟩
  rw [hn5]
  go_wp2_with fail
  have e6 : IntKind.u64.wrap (C3 + D6) = mxC C3 D6 := by unfold mxC; rw [IntKind.wrap_u64]
  rw [e6]
  obtain ⟨C7, hn6⟩ : ∃ z, mxC C3 D6 = z := ⟨_, rfl⟩
  rw [hn6]
  clear e6
  refine (D63.out _ _).mono ?_
  rintro e w4 ⟨rfl, rfl⟩
  obtain ⟨B8, hn7⟩ : ∃ z, rdn 63 (bits .xor .u64 B4 C7) = z := ⟨_, rfl⟩
  rw [hn7]
  have hq : mxq x y ⟨A, B, C, D⟩ = (⟨A5, B8, C7, D6⟩ : Qd) := by
    simp only [mxq, half, mxD, hn0, hn1, hn2, hn3, hn4, hn5, hn6, hn7]
  have HQ := Lib.hid hq
  clear hq hn0 hn1 hn2 hn3 hn4 hn5 hn6 hn7 D32 D24 D16 D63
  go_wp2_with fail
  have HN := Lib.hid (show CN w v a b c d _ from ⟨HC.out.old, HC.out.r1, v, HC.out.r0, fun _ _ _ _ _ => rfl⟩)
  refine region_tie (CN w v a b c d) (fun i s wx => match i with | 0 => s 65 = (.slice (some ⟨g, 0, none⟩) 4 4) | 1 => s 66 = (.pointer (some ⟨g, 0, none⟩)) | 2 => s 67 = (.int .i64 (a : Nat)) | 3 => s 68 = (.slice (some ⟨g, 0, none⟩) 4 4) | 4 => s 69 = (.pointer (some ⟨g, 1, none⟩)) | 5 => s 70 = (.int .i64 (b : Nat)) | 6 => s 71 = (.slice (some ⟨g, 0, none⟩) 4 4) | 7 => s 72 = (.pointer (some ⟨g, 2, none⟩)) | 8 => s 73 = (.int .i64 (c : Nat)) | 9 => s 74 = (.slice (some ⟨g, 0, none⟩) 4 4) | 10 => s 75 = (.pointer (some ⟨g, 3, none⟩)) | 11 => s 76 = (.int .i64 (d : Nat)) | 12 => s 77 = (.int .u64 A5) | 13 => s 78 = (.int .u64 B8) | 14 => s 79 = (.int .u64 C7) | 15 => s 80 = (.int .u64 D6) | 16 => s 81 = (.pointer (some ⟨w.heap.size, a, none⟩)) | 17 => wx.cell? ⟨w.heap.size, a, none⟩ = some (.int .u64 A5) | 18 => s 82 = (.pointer (some ⟨w.heap.size, b, none⟩)) | 19 => wx.cell? ⟨w.heap.size, b, none⟩ = some (.int .u64 B8) | 20 => s 83 = (.pointer (some ⟨w.heap.size, c, none⟩)) | 21 => wx.cell? ⟨w.heap.size, c, none⟩ = some (.int .u64 C7) | 22 => s 84 = (.pointer (some ⟨w.heap.size, d, none⟩)) | 23 => wx.cell? ⟨w.heap.size, d, none⟩ = some (.int .u64 D6) | _ => True) (RQ w.heap.size a b c d A5 B8 C7 D6) (fun i => match i with | 0 => [65] | 1 => [66] | 2 => [67] | 3 => [68] | 4 => [69] | 5 => [70] | 6 => [71] | 7 => [72] | 8 => [73] | 9 => [74] | 10 => [75] | 11 => [76] | 12 => [77] | 13 => [78] | 14 => [79] | 15 => [80] | 16 => [81] | 17 => [] | 18 => [82] | 19 => [] | 20 => [83] | 21 => [] | 22 => [84] | 23 => [] | _ => []) (fun i => i) (by kernel_rfl) (by kernel_rfl) ⟨HN.out.old.drew, HN.out.r1, HN.out.row⟩ ?_ ?_ ?_ ?_
  · intro i s s' wx he hp
    match i, he, hp with
    | 0, he, hp => exact (he 65 (by simp)).symm.trans hp
    | 1, he, hp => exact (he 66 (by simp)).symm.trans hp
    | 2, he, hp => exact (he 67 (by simp)).symm.trans hp
    | 3, he, hp => exact (he 68 (by simp)).symm.trans hp
    | 4, he, hp => exact (he 69 (by simp)).symm.trans hp
    | 5, he, hp => exact (he 70 (by simp)).symm.trans hp
    | 6, he, hp => exact (he 71 (by simp)).symm.trans hp
    | 7, he, hp => exact (he 72 (by simp)).symm.trans hp
    | 8, he, hp => exact (he 73 (by simp)).symm.trans hp
    | 9, he, hp => exact (he 74 (by simp)).symm.trans hp
    | 10, he, hp => exact (he 75 (by simp)).symm.trans hp
    | 11, he, hp => exact (he 76 (by simp)).symm.trans hp
    | 12, he, hp => exact (he 77 (by simp)).symm.trans hp
    | 13, he, hp => exact (he 78 (by simp)).symm.trans hp
    | 14, he, hp => exact (he 79 (by simp)).symm.trans hp
    | 15, he, hp => exact (he 80 (by simp)).symm.trans hp
    | 16, he, hp => exact (he 81 (by simp)).symm.trans hp
    | 17, he, hp => exact hp
    | 18, he, hp => exact (he 82 (by simp)).symm.trans hp
    | 19, he, hp => exact hp
    | 20, he, hp => exact (he 83 (by simp)).symm.trans hp
    | 21, he, hp => exact hp
    | 22, he, hp => exact (he 84 (by simp)).symm.trans hp
    | 23, he, hp => exact hp
    | _ + 24, _, _ => trivial
  · intro i s wa wb hR hp
    match i, hp with
    | 0, hp => exact hp
    | 1, hp => exact hp
    | 2, hp => exact hp
    | 3, hp => exact hp
    | 4, hp => exact hp
    | 5, hp => exact hp
    | 6, hp => exact hp
    | 7, hp => exact hp
    | 8, hp => exact hp
    | 9, hp => exact hp
    | 10, hp => exact hp
    | 11, hp => exact hp
    | 12, hp => exact hp
    | 13, hp => exact hp
    | 14, hp => exact hp
    | 15, hp => exact hp
    | 16, hp => exact hp
    | 17, hp => exact hR.1 hp
    | 18, hp => exact hp
    | 19, hp => exact hR.2.1 hp
    | 20, hp => exact hp
    | 21, hp => exact hR.2.2.1 hp
    | 22, hp => exact hp
    | 23, hp => exact hR.2.2.2 hp
    | _ + 24, _ => trivial
  · refine ⟨?_, ?_, ?_, ?_, ?_, ?_, ?_, ?_, ?_, ?_, ?_, ?_, ?_, ?_, ?_, ?_, ?_, ?_, ?_, ?_, ?_, ?_, ?_, ?_, trivial⟩
    · intro aa wx hC hsz hK
      have h0 : aa.tmps.getD 1 undef = (.slice (some ⟨g, 0, none⟩) 4 4) := hK.1 1 (by kernel_rfl)
      exact tt_val ((.slice (some ⟨g, 0, none⟩) 4 4)) (by kernel_rfl) (by rw [← h0]; kernel_rfl) hC (slots_put _ _ _ (by rw [hsz]; exact of_decide_eq_true (by kernel_rfl))) (RQ.refl _ _ _ _ _ _ _ _ _ _)
    · intro aa wx hC hsz hK
      have h0 : aa.tmps.getD 65 undef = (.slice (some ⟨g, 0, none⟩) 4 4) := hK.2 ⟨0, .data⟩ (by simp) rfl _ rfl
      refine tt_v (Instr.indexAt 107 (aa.tmps.getD 65 undef) (.int .i64 0)) ((.pointer (some ⟨g, 0, none⟩))) (by kernel_rfl) (by kernel_rfl) ?_ hC (slots_put _ _ _ (by rw [hsz]; exact of_decide_eq_true (by kernel_rfl))) (RQ.refl _ _ _ _ _ _ _ _ _ _)
      rw [h0]
      exact (by kernel_rfl)
    · intro aa wx hC hsz hK
      have h0 : aa.tmps.getD 66 undef = (.pointer (some ⟨g, 0, none⟩)) := hK.2 ⟨1, .data⟩ (by simp) rfl _ rfl
      exact tt_load 3 (.tmp 66) ((.pointer (some ⟨g, 0, none⟩))) ((.int .i64 (a : Nat))) rfl (by kernel_rfl) h0 (load_i64 _ _ _ _ ((hC.old.cell (p := ⟨g, 0, none⟩) HL.out.lt).trans HL.out.c0)) hC (slots_put _ _ _ (by rw [hsz]; exact of_decide_eq_true (by kernel_rfl))) (RQ.refl _ _ _ _ _ _ _ _ _ _)
    · intro aa wx hC hsz hK
      have h0 : aa.tmps.getD 1 undef = (.slice (some ⟨g, 0, none⟩) 4 4) := hK.1 1 (by kernel_rfl)
      exact tt_val ((.slice (some ⟨g, 0, none⟩) 4 4)) (by kernel_rfl) (by rw [← h0]; kernel_rfl) hC (slots_put _ _ _ (by rw [hsz]; exact of_decide_eq_true (by kernel_rfl))) (RQ.refl _ _ _ _ _ _ _ _ _ _)
    · intro aa wx hC hsz hK
      have h0 : aa.tmps.getD 68 undef = (.slice (some ⟨g, 0, none⟩) 4 4) := hK.2 ⟨3, .data⟩ (by simp) rfl _ rfl
      refine tt_v (Instr.indexAt 107 (aa.tmps.getD 68 undef) (.int .i64 1)) ((.pointer (some ⟨g, 1, none⟩))) (by kernel_rfl) (by kernel_rfl) ?_ hC (slots_put _ _ _ (by rw [hsz]; exact of_decide_eq_true (by kernel_rfl))) (RQ.refl _ _ _ _ _ _ _ _ _ _)
      rw [h0]
      exact (by kernel_rfl)
    · intro aa wx hC hsz hK
      have h0 : aa.tmps.getD 69 undef = (.pointer (some ⟨g, 1, none⟩)) := hK.2 ⟨4, .data⟩ (by simp) rfl _ rfl
      exact tt_load 3 (.tmp 69) ((.pointer (some ⟨g, 1, none⟩))) ((.int .i64 (b : Nat))) rfl (by kernel_rfl) h0 (load_i64 _ _ _ _ ((hC.old.cell (p := ⟨g, 1, none⟩) HL.out.lt).trans HL.out.c1)) hC (slots_put _ _ _ (by rw [hsz]; exact of_decide_eq_true (by kernel_rfl))) (RQ.refl _ _ _ _ _ _ _ _ _ _)
    · intro aa wx hC hsz hK
      have h0 : aa.tmps.getD 1 undef = (.slice (some ⟨g, 0, none⟩) 4 4) := hK.1 1 (by kernel_rfl)
      exact tt_val ((.slice (some ⟨g, 0, none⟩) 4 4)) (by kernel_rfl) (by rw [← h0]; kernel_rfl) hC (slots_put _ _ _ (by rw [hsz]; exact of_decide_eq_true (by kernel_rfl))) (RQ.refl _ _ _ _ _ _ _ _ _ _)
    · intro aa wx hC hsz hK
      have h0 : aa.tmps.getD 71 undef = (.slice (some ⟨g, 0, none⟩) 4 4) := hK.2 ⟨6, .data⟩ (by simp) rfl _ rfl
      refine tt_v (Instr.indexAt 107 (aa.tmps.getD 71 undef) (.int .i64 2)) ((.pointer (some ⟨g, 2, none⟩))) (by kernel_rfl) (by kernel_rfl) ?_ hC (slots_put _ _ _ (by rw [hsz]; exact of_decide_eq_true (by kernel_rfl))) (RQ.refl _ _ _ _ _ _ _ _ _ _)
      rw [h0]
      exact (by kernel_rfl)
    · intro aa wx hC hsz hK
      have h0 : aa.tmps.getD 72 undef = (.pointer (some ⟨g, 2, none⟩)) := hK.2 ⟨7, .data⟩ (by simp) rfl _ rfl
      exact tt_load 3 (.tmp 72) ((.pointer (some ⟨g, 2, none⟩))) ((.int .i64 (c : Nat))) rfl (by kernel_rfl) h0 (load_i64 _ _ _ _ ((hC.old.cell (p := ⟨g, 2, none⟩) HL.out.lt).trans HL.out.c2)) hC (slots_put _ _ _ (by rw [hsz]; exact of_decide_eq_true (by kernel_rfl))) (RQ.refl _ _ _ _ _ _ _ _ _ _)
    · intro aa wx hC hsz hK
      have h0 : aa.tmps.getD 1 undef = (.slice (some ⟨g, 0, none⟩) 4 4) := hK.1 1 (by kernel_rfl)
      exact tt_val ((.slice (some ⟨g, 0, none⟩) 4 4)) (by kernel_rfl) (by rw [← h0]; kernel_rfl) hC (slots_put _ _ _ (by rw [hsz]; exact of_decide_eq_true (by kernel_rfl))) (RQ.refl _ _ _ _ _ _ _ _ _ _)
    · intro aa wx hC hsz hK
      have h0 : aa.tmps.getD 74 undef = (.slice (some ⟨g, 0, none⟩) 4 4) := hK.2 ⟨9, .data⟩ (by simp) rfl _ rfl
      refine tt_v (Instr.indexAt 107 (aa.tmps.getD 74 undef) (.int .i64 3)) ((.pointer (some ⟨g, 3, none⟩))) (by kernel_rfl) (by kernel_rfl) ?_ hC (slots_put _ _ _ (by rw [hsz]; exact of_decide_eq_true (by kernel_rfl))) (RQ.refl _ _ _ _ _ _ _ _ _ _)
      rw [h0]
      exact (by kernel_rfl)
    · intro aa wx hC hsz hK
      have h0 : aa.tmps.getD 75 undef = (.pointer (some ⟨g, 3, none⟩)) := hK.2 ⟨10, .data⟩ (by simp) rfl _ rfl
      exact tt_load 3 (.tmp 75) ((.pointer (some ⟨g, 3, none⟩))) ((.int .i64 (d : Nat))) rfl (by kernel_rfl) h0 (load_i64 _ _ _ _ ((hC.old.cell (p := ⟨g, 3, none⟩) HL.out.lt).trans HL.out.c3)) hC (slots_put _ _ _ (by rw [hsz]; exact of_decide_eq_true (by kernel_rfl))) (RQ.refl _ _ _ _ _ _ _ _ _ _)
    · intro aa wx hC hsz hK
      have h0 : aa.tmps.getD 9 undef = (.int .u64 A5) := hK.1 9 (by kernel_rfl)
      exact tt_val ((.int .u64 A5)) (by kernel_rfl) (by rw [← h0]; kernel_rfl) hC (slots_put _ _ _ (by rw [hsz]; exact of_decide_eq_true (by kernel_rfl))) (RQ.refl _ _ _ _ _ _ _ _ _ _)
    · intro aa wx hC hsz hK
      have h0 : aa.tmps.getD 10 undef = (.int .u64 B8) := hK.1 10 (by kernel_rfl)
      exact tt_val ((.int .u64 B8)) (by kernel_rfl) (by rw [← h0]; kernel_rfl) hC (slots_put _ _ _ (by rw [hsz]; exact of_decide_eq_true (by kernel_rfl))) (RQ.refl _ _ _ _ _ _ _ _ _ _)
    · intro aa wx hC hsz hK
      have h0 : aa.tmps.getD 11 undef = (.int .u64 C7) := hK.1 11 (by kernel_rfl)
      exact tt_val ((.int .u64 C7)) (by kernel_rfl) (by rw [← h0]; kernel_rfl) hC (slots_put _ _ _ (by rw [hsz]; exact of_decide_eq_true (by kernel_rfl))) (RQ.refl _ _ _ _ _ _ _ _ _ _)
    · intro aa wx hC hsz hK
      have h0 : aa.tmps.getD 12 undef = (.int .u64 D6) := hK.1 12 (by kernel_rfl)
      exact tt_val ((.int .u64 D6)) (by kernel_rfl) (by rw [← h0]; kernel_rfl) hC (slots_put _ _ _ (by rw [hsz]; exact of_decide_eq_true (by kernel_rfl))) (RQ.refl _ _ _ _ _ _ _ _ _ _)
    · intro aa wx hC hsz hK
      have h0 : aa.tmps.getD 4 undef = (.pointer (some ⟨w.heap.size, 0, none⟩)) := hK.1 4 (by kernel_rfl)
      have h1 : aa.tmps.getD 67 undef = (.int .i64 (a : Nat)) := hK.2 ⟨2, .data⟩ (by simp) rfl _ rfl
      refine tt_v (Instr.indexAt 55 (aa.tmps.getD 4 undef) (aa.tmps.getD 67 undef)) ((.pointer (some ⟨w.heap.size, a, none⟩))) (by kernel_rfl) (by kernel_rfl) ?_ hC (slots_put _ _ _ (by rw [hsz]; exact of_decide_eq_true (by kernel_rfl))) (RQ.refl _ _ _ _ _ _ _ _ _ _)
      rw [h0, h1]
      exact at16 _ _ ha wx
    · intro aa wx hC hsz hK
      have h0 : aa.tmps.getD 81 undef = (.pointer (some ⟨w.heap.size, a, none⟩)) := hK.2 ⟨16, .data⟩ (by simp) rfl _ rfl
      have h1 : aa.tmps.getD 77 undef = (.int .u64 A5) := hK.2 ⟨12, .data⟩ (by simp) rfl _ rfl
      exact tt_store (by kernel_rfl) rfl (run_st 34 (.tmp 81) (.tmp 77) _ _ rfl h0 h1 (hC.store a ha A5)) (hC.set a ha (.inl rfl) A5) (hC.same a ha A5) ⟨fun _ => hC.same a ha A5, fun h => far_cell h (Ne.symm hab), fun h => far_cell h (Ne.symm hac), fun h => far_cell h (Ne.symm had)⟩
    · intro aa wx hC hsz hK
      have h0 : aa.tmps.getD 4 undef = (.pointer (some ⟨w.heap.size, 0, none⟩)) := hK.1 4 (by kernel_rfl)
      have h1 : aa.tmps.getD 70 undef = (.int .i64 (b : Nat)) := hK.2 ⟨5, .data⟩ (by simp) rfl _ rfl
      refine tt_v (Instr.indexAt 55 (aa.tmps.getD 4 undef) (aa.tmps.getD 70 undef)) ((.pointer (some ⟨w.heap.size, b, none⟩))) (by kernel_rfl) (by kernel_rfl) ?_ hC (slots_put _ _ _ (by rw [hsz]; exact of_decide_eq_true (by kernel_rfl))) (RQ.refl _ _ _ _ _ _ _ _ _ _)
      rw [h0, h1]
      exact at16 _ _ hb wx
    · intro aa wx hC hsz hK
      have h0 : aa.tmps.getD 82 undef = (.pointer (some ⟨w.heap.size, b, none⟩)) := hK.2 ⟨18, .data⟩ (by simp) rfl _ rfl
      have h1 : aa.tmps.getD 78 undef = (.int .u64 B8) := hK.2 ⟨13, .data⟩ (by simp) rfl _ rfl
      exact tt_store (by kernel_rfl) rfl (run_st 34 (.tmp 82) (.tmp 78) _ _ rfl h0 h1 (hC.store b hb B8)) (hC.set b hb (.inr (.inl rfl)) B8) (hC.same b hb B8) ⟨fun h => far_cell h hab, fun _ => hC.same b hb B8, fun h => far_cell h (Ne.symm hbc), fun h => far_cell h (Ne.symm hbd)⟩
    · intro aa wx hC hsz hK
      have h0 : aa.tmps.getD 4 undef = (.pointer (some ⟨w.heap.size, 0, none⟩)) := hK.1 4 (by kernel_rfl)
      have h1 : aa.tmps.getD 73 undef = (.int .i64 (c : Nat)) := hK.2 ⟨8, .data⟩ (by simp) rfl _ rfl
      refine tt_v (Instr.indexAt 55 (aa.tmps.getD 4 undef) (aa.tmps.getD 73 undef)) ((.pointer (some ⟨w.heap.size, c, none⟩))) (by kernel_rfl) (by kernel_rfl) ?_ hC (slots_put _ _ _ (by rw [hsz]; exact of_decide_eq_true (by kernel_rfl))) (RQ.refl _ _ _ _ _ _ _ _ _ _)
      rw [h0, h1]
      exact at16 _ _ hc wx
    · intro aa wx hC hsz hK
      have h0 : aa.tmps.getD 83 undef = (.pointer (some ⟨w.heap.size, c, none⟩)) := hK.2 ⟨20, .data⟩ (by simp) rfl _ rfl
      have h1 : aa.tmps.getD 79 undef = (.int .u64 C7) := hK.2 ⟨14, .data⟩ (by simp) rfl _ rfl
      exact tt_store (by kernel_rfl) rfl (run_st 34 (.tmp 83) (.tmp 79) _ _ rfl h0 h1 (hC.store c hc C7)) (hC.set c hc (.inr (.inr (.inl rfl))) C7) (hC.same c hc C7) ⟨fun h => far_cell h hac, fun h => far_cell h hbc, fun _ => hC.same c hc C7, fun h => far_cell h (Ne.symm hcd)⟩
    · intro aa wx hC hsz hK
      have h0 : aa.tmps.getD 4 undef = (.pointer (some ⟨w.heap.size, 0, none⟩)) := hK.1 4 (by kernel_rfl)
      have h1 : aa.tmps.getD 76 undef = (.int .i64 (d : Nat)) := hK.2 ⟨11, .data⟩ (by simp) rfl _ rfl
      refine tt_v (Instr.indexAt 55 (aa.tmps.getD 4 undef) (aa.tmps.getD 76 undef)) ((.pointer (some ⟨w.heap.size, d, none⟩))) (by kernel_rfl) (by kernel_rfl) ?_ hC (slots_put _ _ _ (by rw [hsz]; exact of_decide_eq_true (by kernel_rfl))) (RQ.refl _ _ _ _ _ _ _ _ _ _)
      rw [h0, h1]
      exact at16 _ _ hd wx
    · intro aa wx hC hsz hK
      have h0 : aa.tmps.getD 84 undef = (.pointer (some ⟨w.heap.size, d, none⟩)) := hK.2 ⟨22, .data⟩ (by simp) rfl _ rfl
      have h1 : aa.tmps.getD 80 undef = (.int .u64 D6) := hK.2 ⟨15, .data⟩ (by simp) rfl _ rfl
      exact tt_store (by kernel_rfl) rfl (run_st 34 (.tmp 84) (.tmp 80) _ _ rfl h0 h1 (hC.store d hd D6)) (hC.set d hd (.inr (.inr (.inr rfl))) D6) (hC.same d hd D6) ⟨fun h => far_cell h had, fun h => far_cell h hbd, fun h => far_cell h hcd, fun _ => hC.same d hd D6⟩
  intro f1 wy hCy hf
  have ka := hf 17 _ rfl
  have kb := hf 19 _ rfl
  have kc := hf 21 _ rfl
  have kd := hf 23 _ rfl
  obtain ⟨f, hrow, hfv⟩ := hCy.row
  have ga : f a = A5 := by have := (cell_row16 hrow a ha).symm.trans ka; injection this with this; injection this
  have gb : f b = B8 := by have := (cell_row16 hrow b hb).symm.trans kb; injection this with this; injection this
  have gc : f c = C7 := by have := (cell_row16 hrow c hc).symm.trans kc; injection this with this; injection this
  have gd : f d = D6 := by have := (cell_row16 hrow d hd).symm.trans kd; injection this with this; injection this
  have hv : f = mxv v a b c d x y := by
    funext i
    unfold mxv putq
    rw [hA, hB, hC, hD, HQ.out]
    by_cases i1 : i = a
    · rw [if_pos i1, i1]; exact ga
    · rw [if_neg i1]
      by_cases i2 : i = b
      · rw [if_pos i2, i2]; exact gb
      · rw [if_neg i2]
        by_cases i3 : i = c
        · rw [if_pos i3, i3]; exact gc
        · rw [if_neg i3]
          by_cases i4 : i = d
          · rw [if_pos i4, i4]; exact gd
          · rw [if_neg i4]; exact hfv i i1 i2 i3 i4
  have H4 := Lib.hid (show CM w (mxv v a b c d x y) wy from ⟨hCy.old, by rw [← hv]; exact hrow, hCy.r1⟩)
  clear hf ka kb kc kd hrow hfv ga gb gc gd hCy HN HC
  generalize hAct : putAll _ _ _ = G at *
  have s4 : G.tmps.getD 4 undef = (.pointer (some ⟨w.heap.size, 0, none⟩)) := by subst hAct; kernel_rfl
  have s8 : G.tmps.getD 8 undef = (.pointer (some ⟨w.heap.size + 1, 0, none⟩)) := by subst hAct; kernel_rfl
  have hsz : G.tmps.size = 86 := by rw [← hAct, putAll_size]; rfl
  have hdf : G.defers = [] := by subst hAct; kernel_rfl
  clear hAct
  obtain ⟨u0, t0⟩ : ∃ u, G.tmps.getD 0 undef = u := ⟨_, rfl⟩
  obtain ⟨u1, t1⟩ : ∃ u, G.tmps.getD 1 undef = u := ⟨_, rfl⟩
  obtain ⟨u2, t2⟩ : ∃ u, G.tmps.getD 2 undef = u := ⟨_, rfl⟩
  obtain ⟨u3, t3⟩ : ∃ u, G.tmps.getD 3 undef = u := ⟨_, rfl⟩
  obtain ⟨u5, t5⟩ : ∃ u, G.tmps.getD 5 undef = u := ⟨_, rfl⟩
  obtain ⟨u6, t6⟩ : ∃ u, G.tmps.getD 6 undef = u := ⟨_, rfl⟩
  obtain ⟨u7, t7⟩ : ∃ u, G.tmps.getD 7 undef = u := ⟨_, rfl⟩
  obtain ⟨u9, t9⟩ : ∃ u, G.tmps.getD 9 undef = u := ⟨_, rfl⟩
  obtain ⟨u10, t10⟩ : ∃ u, G.tmps.getD 10 undef = u := ⟨_, rfl⟩
  obtain ⟨u11, t11⟩ : ∃ u, G.tmps.getD 11 undef = u := ⟨_, rfl⟩
  obtain ⟨u12, t12⟩ : ∃ u, G.tmps.getD 12 undef = u := ⟨_, rfl⟩
  obtain ⟨u13, t13⟩ : ∃ u, G.tmps.getD 13 undef = u := ⟨_, rfl⟩
  obtain ⟨u14, t14⟩ : ∃ u, G.tmps.getD 14 undef = u := ⟨_, rfl⟩
  obtain ⟨u15, t15⟩ : ∃ u, G.tmps.getD 15 undef = u := ⟨_, rfl⟩
  obtain ⟨u16, t16⟩ : ∃ u, G.tmps.getD 16 undef = u := ⟨_, rfl⟩
  obtain ⟨u17, t17⟩ : ∃ u, G.tmps.getD 17 undef = u := ⟨_, rfl⟩
  obtain ⟨u18, t18⟩ : ∃ u, G.tmps.getD 18 undef = u := ⟨_, rfl⟩
  obtain ⟨u19, t19⟩ : ∃ u, G.tmps.getD 19 undef = u := ⟨_, rfl⟩
  obtain ⟨u20, t20⟩ : ∃ u, G.tmps.getD 20 undef = u := ⟨_, rfl⟩
  obtain ⟨u21, t21⟩ : ∃ u, G.tmps.getD 21 undef = u := ⟨_, rfl⟩
  obtain ⟨u22, t22⟩ : ∃ u, G.tmps.getD 22 undef = u := ⟨_, rfl⟩
  obtain ⟨u23, t23⟩ : ∃ u, G.tmps.getD 23 undef = u := ⟨_, rfl⟩
  obtain ⟨u24, t24⟩ : ∃ u, G.tmps.getD 24 undef = u := ⟨_, rfl⟩
  obtain ⟨u25, t25⟩ : ∃ u, G.tmps.getD 25 undef = u := ⟨_, rfl⟩
  obtain ⟨u26, t26⟩ : ∃ u, G.tmps.getD 26 undef = u := ⟨_, rfl⟩
  obtain ⟨u27, t27⟩ : ∃ u, G.tmps.getD 27 undef = u := ⟨_, rfl⟩
  obtain ⟨u28, t28⟩ : ∃ u, G.tmps.getD 28 undef = u := ⟨_, rfl⟩
  obtain ⟨u29, t29⟩ : ∃ u, G.tmps.getD 29 undef = u := ⟨_, rfl⟩
  obtain ⟨u30, t30⟩ : ∃ u, G.tmps.getD 30 undef = u := ⟨_, rfl⟩
  obtain ⟨u31, t31⟩ : ∃ u, G.tmps.getD 31 undef = u := ⟨_, rfl⟩
  obtain ⟨u32, t32⟩ : ∃ u, G.tmps.getD 32 undef = u := ⟨_, rfl⟩
  obtain ⟨u33, t33⟩ : ∃ u, G.tmps.getD 33 undef = u := ⟨_, rfl⟩
  obtain ⟨u34, t34⟩ : ∃ u, G.tmps.getD 34 undef = u := ⟨_, rfl⟩
  obtain ⟨u35, t35⟩ : ∃ u, G.tmps.getD 35 undef = u := ⟨_, rfl⟩
  obtain ⟨u36, t36⟩ : ∃ u, G.tmps.getD 36 undef = u := ⟨_, rfl⟩
  obtain ⟨u37, t37⟩ : ∃ u, G.tmps.getD 37 undef = u := ⟨_, rfl⟩
  obtain ⟨u38, t38⟩ : ∃ u, G.tmps.getD 38 undef = u := ⟨_, rfl⟩
  obtain ⟨u39, t39⟩ : ∃ u, G.tmps.getD 39 undef = u := ⟨_, rfl⟩
  obtain ⟨u40, t40⟩ : ∃ u, G.tmps.getD 40 undef = u := ⟨_, rfl⟩
  obtain ⟨u41, t41⟩ : ∃ u, G.tmps.getD 41 undef = u := ⟨_, rfl⟩
  obtain ⟨u42, t42⟩ : ∃ u, G.tmps.getD 42 undef = u := ⟨_, rfl⟩
  obtain ⟨u43, t43⟩ : ∃ u, G.tmps.getD 43 undef = u := ⟨_, rfl⟩
  obtain ⟨u44, t44⟩ : ∃ u, G.tmps.getD 44 undef = u := ⟨_, rfl⟩
  obtain ⟨u45, t45⟩ : ∃ u, G.tmps.getD 45 undef = u := ⟨_, rfl⟩
  obtain ⟨u46, t46⟩ : ∃ u, G.tmps.getD 46 undef = u := ⟨_, rfl⟩
  obtain ⟨u47, t47⟩ : ∃ u, G.tmps.getD 47 undef = u := ⟨_, rfl⟩
  obtain ⟨u48, t48⟩ : ∃ u, G.tmps.getD 48 undef = u := ⟨_, rfl⟩
  obtain ⟨u49, t49⟩ : ∃ u, G.tmps.getD 49 undef = u := ⟨_, rfl⟩
  obtain ⟨u50, t50⟩ : ∃ u, G.tmps.getD 50 undef = u := ⟨_, rfl⟩
  obtain ⟨u51, t51⟩ : ∃ u, G.tmps.getD 51 undef = u := ⟨_, rfl⟩
  obtain ⟨u52, t52⟩ : ∃ u, G.tmps.getD 52 undef = u := ⟨_, rfl⟩
  obtain ⟨u53, t53⟩ : ∃ u, G.tmps.getD 53 undef = u := ⟨_, rfl⟩
  obtain ⟨u54, t54⟩ : ∃ u, G.tmps.getD 54 undef = u := ⟨_, rfl⟩
  obtain ⟨u55, t55⟩ : ∃ u, G.tmps.getD 55 undef = u := ⟨_, rfl⟩
  obtain ⟨u56, t56⟩ : ∃ u, G.tmps.getD 56 undef = u := ⟨_, rfl⟩
  obtain ⟨u57, t57⟩ : ∃ u, G.tmps.getD 57 undef = u := ⟨_, rfl⟩
  obtain ⟨u58, t58⟩ : ∃ u, G.tmps.getD 58 undef = u := ⟨_, rfl⟩
  obtain ⟨u59, t59⟩ : ∃ u, G.tmps.getD 59 undef = u := ⟨_, rfl⟩
  obtain ⟨u60, t60⟩ : ∃ u, G.tmps.getD 60 undef = u := ⟨_, rfl⟩
  obtain ⟨u61, t61⟩ : ∃ u, G.tmps.getD 61 undef = u := ⟨_, rfl⟩
  obtain ⟨u62, t62⟩ : ∃ u, G.tmps.getD 62 undef = u := ⟨_, rfl⟩
  obtain ⟨u63, t63⟩ : ∃ u, G.tmps.getD 63 undef = u := ⟨_, rfl⟩
  obtain ⟨u64, t64⟩ : ∃ u, G.tmps.getD 64 undef = u := ⟨_, rfl⟩
  obtain ⟨u65, t65⟩ : ∃ u, G.tmps.getD 65 undef = u := ⟨_, rfl⟩
  obtain ⟨u66, t66⟩ : ∃ u, G.tmps.getD 66 undef = u := ⟨_, rfl⟩
  obtain ⟨u67, t67⟩ : ∃ u, G.tmps.getD 67 undef = u := ⟨_, rfl⟩
  obtain ⟨u68, t68⟩ : ∃ u, G.tmps.getD 68 undef = u := ⟨_, rfl⟩
  obtain ⟨u69, t69⟩ : ∃ u, G.tmps.getD 69 undef = u := ⟨_, rfl⟩
  obtain ⟨u70, t70⟩ : ∃ u, G.tmps.getD 70 undef = u := ⟨_, rfl⟩
  obtain ⟨u71, t71⟩ : ∃ u, G.tmps.getD 71 undef = u := ⟨_, rfl⟩
  obtain ⟨u72, t72⟩ : ∃ u, G.tmps.getD 72 undef = u := ⟨_, rfl⟩
  obtain ⟨u73, t73⟩ : ∃ u, G.tmps.getD 73 undef = u := ⟨_, rfl⟩
  obtain ⟨u74, t74⟩ : ∃ u, G.tmps.getD 74 undef = u := ⟨_, rfl⟩
  obtain ⟨u75, t75⟩ : ∃ u, G.tmps.getD 75 undef = u := ⟨_, rfl⟩
  obtain ⟨u76, t76⟩ : ∃ u, G.tmps.getD 76 undef = u := ⟨_, rfl⟩
  obtain ⟨u77, t77⟩ : ∃ u, G.tmps.getD 77 undef = u := ⟨_, rfl⟩
  obtain ⟨u78, t78⟩ : ∃ u, G.tmps.getD 78 undef = u := ⟨_, rfl⟩
  obtain ⟨u79, t79⟩ : ∃ u, G.tmps.getD 79 undef = u := ⟨_, rfl⟩
  obtain ⟨u80, t80⟩ : ∃ u, G.tmps.getD 80 undef = u := ⟨_, rfl⟩
  obtain ⟨u81, t81⟩ : ∃ u, G.tmps.getD 81 undef = u := ⟨_, rfl⟩
  obtain ⟨u82, t82⟩ : ∃ u, G.tmps.getD 82 undef = u := ⟨_, rfl⟩
  obtain ⟨u83, t83⟩ : ∃ u, G.tmps.getD 83 undef = u := ⟨_, rfl⟩
  obtain ⟨u84, t84⟩ : ∃ u, G.tmps.getD 84 undef = u := ⟨_, rfl⟩
  obtain ⟨u85, t85⟩ : ∃ u, G.tmps.getD 85 undef = u := ⟨_, rfl⟩
  obtain ⟨tm, df⟩ := G
  simp only at *
  have hLt := arr_lit2 tm
  rw [hsz] at hLt
  simp only [List.range, List.range.loop, List.map] at hLt
  rw [t0, t1, t2, t3, s4, t5, t6, t7, s8, t9, t10, t11, t12, t13, t14, t15, t16, t17, t18, t19, t20, t21, t22, t23, t24, t25, t26, t27, t28, t29, t30, t31, t32, t33, t34, t35, t36, t37, t38, t39, t40, t41, t42, t43, t44, t45, t46, t47, t48, t49, t50, t51, t52, t53, t54, t55, t56, t57, t58, t59, t60, t61, t62, t63, t64, t65, t66, t67, t68, t69, t70, t71, t72, t73, t74, t75, t76, t77, t78, t79, t80, t81, t82, t83, t84, t85] at hLt
  subst hLt hdf
  clear t0 t1 t2 t3 s4 t5 t6 t7 s8 t9 t10 t11 t12 t13 t14 t15 t16 t17 t18 t19 t20 t21 t22 t23 t24 t25 t26 t27 t28 t29 t30 t31 t32 t33 t34 t35 t36 t37 t38 t39 t40 t41 t42 t43 t44 t45 t46 t47 t48 t49 t50 t51 t52 t53 t54 t55 t56 t57 t58 t59 t60 t61 t62 t63 t64 t65 t66 t67 t68 t69 t70 t71 t72 t73 t74 t75 t76 t77 t78 t79 t80 t81 t82 t83 t84 t85 hsz
  obtain ⟨ro, hro⟩ : ∃ ro, mxv v a b c d x y = ro := ⟨_, rfl⟩
  rw [hro] at H4
  have HRO := Lib.hid hro
  have HI16 : Hid ((Tryd.prog.info? 55).map (·.size) = some (ar .u64 16 ro).size) := Lib.hid (by rw [ar_size]; exact info16u)
  clear hv hro hA hB hC hD
  go_wp2_with (first | (refine wpList_load_row rfl 55 _ rfl w.heap.size rfl 55 (ar .u64 16 ro) (0, 0) _ (by exact H4.out.r0) Tryd.underlying55 rfl HI16.out ?_) | (refine wpList_store_row rfl 55 _ _ rfl (w.heap.size + 1) (ar .u64 16 ro) rfl rfl 55 #[.int .u64 0, .int .u64 0, .int .u64 0, .int .u64 0, .int .u64 0, .int .u64 0, .int .u64 0, .int .u64 0, .int .u64 0, .int .u64 0, .int .u64 0, .int .u64 0, .int .u64 0, .int .u64 0, .int .u64 0, .int .u64 0] (by exact H4.out.r1) HI16.out (by rw [ar_size]; rfl) (ar_one _ _ _) ?_))
  (try simp only [Act.put, List.setIfInBounds_toArray, List.set_cons_succ, List.set_cons_zero])
  refine bodyPost_ret (v := .agg (ar .u64 16 ro)) (results_cell_row (p := 8) rfl _ _ (w.heap.size + 1) 55 (ar .u64 16 ro) (0, 0) _ rfl (setRow_heap _ _ _ _ _ _ H4.out.r1) Tryd.underlying55 rfl HI16.out) rfl ⟨?_, below_setRow H4.out.old (by omega) _⟩
  rw [HRO.out]
end Go.Proofs.YtoeomlmnejhgpaaDoor

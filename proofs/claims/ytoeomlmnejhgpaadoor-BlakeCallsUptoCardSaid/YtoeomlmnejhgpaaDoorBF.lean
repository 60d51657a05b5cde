/- BLAKE2b: what blake.F comes to. -/
import Derived.Test.YtoeomlmnejhgpaaDoorBBegin
import Derived.Test.YtoeomlmnejhgpaaDoorRTab
namespace Go.Proofs.YtoeomlmnejhgpaaDoor
open Go.RowKit

/-- The places of a round's numbers. -/
def sig (i j : Nat) : Nat := (([[0, 1, 2, 3, 4, 5, 6, 7, 8, 9, 10, 11, 12, 13, 14, 15], [14, 10, 4, 8, 9, 15, 13, 6, 1, 12, 0, 2, 11, 7, 5, 3], [11, 8, 12, 0, 5, 2, 15, 13, 10, 14, 3, 6, 7, 1, 9, 4], [7, 9, 3, 1, 13, 12, 11, 14, 2, 6, 5, 10, 4, 0, 15, 8], [9, 0, 5, 7, 2, 4, 10, 15, 14, 1, 11, 12, 6, 8, 3, 13], [2, 12, 6, 10, 0, 11, 8, 3, 4, 13, 7, 5, 15, 14, 1, 9], [12, 5, 1, 15, 14, 13, 4, 10, 0, 7, 6, 3, 9, 2, 8, 11], [13, 11, 7, 14, 12, 1, 3, 9, 5, 0, 15, 4, 8, 6, 2, 10], [6, 15, 14, 9, 11, 3, 0, 8, 12, 2, 13, 7, 1, 4, 10, 5], [10, 2, 8, 4, 7, 6, 1, 5, 15, 11, 9, 14, 3, 12, 13, 0]] : List (List Nat)).getD i []).getD j 0
theorem sig_lt (i j : Nat) (hi : i < 10) (hj : j < 16) : sig i j < 16 := by
  have : ∀ i : Fin 10, ∀ j : Fin 16, sig i j < 16 := by decide
  exact this ⟨i, hi⟩ ⟨j, hj⟩
/-- The table lies as the program lays it. -/
def Plc (w : World) : Prop := ∀ i j, i < 10 → j < 16 → w.cell? ⟨0, i * 16 + j, none⟩ = some (.int .i64 (sig i j : Nat))
theorem Plc.below {w w' : World} (h : Plc w) (hb : Below w.heap.size w w') : Plc w' := fun i j a b => keep_cell (h i j a b) hb
/-- The sixteen numbers behind so many rounds. -/
def vrn (v m : Nat → Int) : Nat → Nat → Int
  | 0 => v
  | k + 1 => rnd (vrn v m k) (ord m (sig (k % 10)))
/-- What F answers. -/
def bfi (h v : Nat → Int) (i : Nat) : Int := bits .xor .u64 (h i) (bits .xor .u64 (v i) (v (i + 8)))
def bfD (h v : Nat → Int) (k i : Nat) : Int := if i < k then bfi h v i else h i
theorem bfD_next {h v : Nat → Int} {k : Nat} (i : Nat) : updI (bfD h v k) k (bfi h v k) i = bfD h v (k + 1) i := by
  unfold updI bfD
  by_cases e : i = k
  · subst e
    rw [if_pos rfl, if_pos (by omega)]
  · rw [if_neg e]
    by_cases e2 : i < k
    · rw [if_pos e2, if_pos (by omega)]
    · rw [if_neg e2, if_neg (by omega)]
/-- The worlds of F. -/
structure CF (w : World) (h m v : Nat → Int) (V : Nat) (wx : World) : Prop where
  old : Below w.heap.size w wx
  r0 : wx.heap[w.heap.size]? = some (.cells (ar .u64 8 h) 54 (0, 0))
  r1 : wx.heap[w.heap.size + 1]? = some (.cells (ar .u64 16 m) 55 (0, 0))
  r3 : wx.heap[w.heap.size + 1 + 1 + 1]? = some (.cells #[.int .u64 0, .int .u64 0, .int .u64 0, .int .u64 0, .int .u64 0, .int .u64 0, .int .u64 0, .int .u64 0] 54 (0, 0))
  rV : wx.heap[V]? = some (.cells (ar .u64 16 v) 99 (0, 0))
  hV : w.heap.size + 4 ≤ V
theorem CF.high {w wx : World} {h m v : Nat → Int} {V : Nat} (c : CF w h m v V wx) : V < wx.heap.size := (Array.getElem?_eq_some_iff.1 c.rV).1
theorem CF.below {w wx w' : World} {h m v : Nat → Int} {V : Nat} (c : CF w h m v V wx) (hb : Below wx.heap.size wx w') : CF w h m v V w' := by
  have l := c.high
  have l2 := c.hV
  exact ⟨c.old.trans (hb.mono (by omega)), (hb.block _ (by omega)).trans c.r0, (hb.block _ (by omega)).trans c.r1, (hb.block _ (by omega)).trans c.r3, (hb.block _ l).trans c.rV, l2⟩
theorem CF.round {w wx w' : World} {h m v v' : Nat → Int} {V : Nat} (c : CF w h m v V wx) (hb : Bt V wx w') (hr : w'.heap[V]? = some (.cells (ar .u64 16 v') 99 (0, 0))) : CF w h m v' V w' := by
  have l := c.high
  have l2 := c.hV
  exact ⟨hb.below c.old (by omega) (by omega), (hb.block _ (by omega) (by omega)).trans c.r0, (hb.block _ (by omega) (by omega)).trans c.r1, (hb.block _ (by omega) (by omega)).trans c.r3, hr, l2⟩
theorem load_16u {g : Nat} {m : Nat → Int} {w : World} (hg : w.heap[g]? = some (.cells (ar .u64 16 m) 55 (0, 0))) : (Instr.loadAt 55 (.pointer (some ⟨g, 0, none⟩))).run Tryd.prog w = .ok (.agg (ar .u64 16 m)) w := by
  simp only [Instr.loadAt, Instr.sureAddr, Sem.run_bind, Sem.run_pure, Result.andThen_ok, run_loadVar_row w g 55 55 (ar .u64 16 m) (0, 0) _ hg Tryd.underlying55 rfl (by rw [ar_size]; exact info16u)]
theorem load_sig {w : World} {i : Nat} (hP : Plc w) (hi : i < 10) : (Instr.loadAt 103 (.pointer (some ⟨0, i * 16, none⟩))).run Tryd.prog w = .ok (.agg (ar .i64 16 fun j => (sig i j : Nat))) w := by
  simp only [Instr.loadAt, Instr.sureAddr, Sem.run_bind, Sem.run_pure, Result.andThen_ok, run_loadVar_part w 0 (i * 16) 16 103 .i64 (fun j => ((sig i j : Nat) : Int)) _ (fun j hj => hP i j hi hj) Tryd.underlying103 rfl info16i]
set_option maxRecDepth 100000 in
set_option maxHeartbeats 4000000 in
-- WHAT blake.F COMES TO.
theorem bf_any (r : Nat) (h m t : Nat → Int) (last : Bool) (hr : r < 4294967296) (w : World) (hP : Plc w) : Calls Tryd.prog 36 #[.int .u32 r, .agg (ar .u64 8 h), .agg (ar .u64 16 m), .agg (ar .u64 2 t), .bool last] w fun e w' => e = .returned (.agg (ar .u64 8 (bfi h (vrn (bgn h t last) m (min r 65536))))) ∧ Below w.heap.size w w' := by
  have HP := Lib.hid hP; clear hP
  obtain ⟨N, hNe⟩ : ∃ N, min r 65536 = N := ⟨_, rfl⟩
  rw [hNe]
  have hmin : ∀ (ts : Array TypeId) (t : TypeId) (w : World), (Builtin.min_ ts t #[.int .u32 r, .int .u32 65536]).run Tryd.prog w = .ok (.int .u32 (N : Nat)) w := fun ts t w => by
    rw [run_min_int2]
    congr 2
    split <;> omega
  have hN : N < 4294967296 := by omega
  have HN := Lib.hid hN
  clear hNe hr
  have HB := Lib.hid (begin_any h t last)
  have H4 := Lib.hid (heap4 w (.cells (ar .u64 8 h) 54) (.cells (ar .u64 16 m) 55) (.cells (ar .u64 2 t) 56) (.cells #[.int .u64 0, .int .u64 0, .int .u64 0, .int .u64 0, .int .u64 0, .int .u64 0, .int .u64 0, .int .u64 0] 54))
  obtain ⟨v, hv⟩ : ∃ v, bgn h t last = v := ⟨_, rfl⟩
  rw [hv] at HB ⊢
  clear hv
  have HI8 : Hid ((Tryd.prog.info? 54).map (·.size) = some (ar .u64 8 h).size) := Lib.hid (by rw [ar_size]; exact info8u)
  have HI2 : Hid ((Tryd.prog.info? 56).map (·.size) = some (ar .u64 2 t).size) := Lib.hid (by rw [ar_size]; kernel_rfl)
  go_enter Tryd.func36, Tryd.ntmps36
  go_wp2_with (first | (refine wpList_load_row rfl 54 _ rfl w.heap.size rfl 54 (ar .u64 8 h) (0, 0) _ (by exact H4.out.1) Tryd.underlying54 rfl HI8.out ?_) | (refine wpList_load_row rfl 56 _ rfl (w.heap.size + 1 + 1) rfl 56 (ar .u64 2 t) (0, 0) _ (by exact H4.out.2.2.1) Tryd.underlying56 rfl HI2.out ?_))
  refine (HB.out _).mono ?_
  rintro e w2 ⟨rfl, hb⟩
  obtain ⟨V, hVe⟩ : ∃ V, w2.heap.size = V := ⟨_, rfl⟩
  have hs : w.heap.size + 4 ≤ V := by
    have h1 := hb.size
    have h2 : ((((w.alloc (.cells (ar .u64 8 h) 54)).alloc (.cells (ar .u64 16 m) 55)).alloc (.cells (ar .u64 2 t) 56)).alloc (.cells #[.int .u64 0, .int .u64 0, .int .u64 0, .int .u64 0, .int .u64 0, .int .u64 0, .int .u64 0, .int .u64 0] 54)).heap.size = w.heap.size + 4 := by simp
    omega
  have H5 := Lib.hid (show CF w h m v V ((w2.alloc (.cells #[.int .u64 0, .int .u64 0, .int .u64 0, .int .u64 0, .int .u64 0, .int .u64 0, .int .u64 0, .int .u64 0, .int .u64 0, .int .u64 0, .int .u64 0, .int .u64 0, .int .u64 0, .int .u64 0, .int .u64 0, .int .u64 0] 99)).setRow V (ar .u64 16 v)) from by
    have h2 : ((((w.alloc (.cells (ar .u64 8 h) 54)).alloc (.cells (ar .u64 16 m) 55)).alloc (.cells (ar .u64 2 t) 56)).alloc (.cells #[.int .u64 0, .int .u64 0, .int .u64 0, .int .u64 0, .int .u64 0, .int .u64 0, .int .u64 0, .int .u64 0] 54)).heap.size = w.heap.size + 4 := by simp
    have hb0 : Below w.heap.size w ((((w.alloc (.cells (ar .u64 8 h) 54)).alloc (.cells (ar .u64 16 m) 55)).alloc (.cells (ar .u64 2 t) 56)).alloc (.cells #[.int .u64 0, .int .u64 0, .int .u64 0, .int .u64 0, .int .u64 0, .int .u64 0, .int .u64 0, .int .u64 0] 54)) := by go_grown
    have hk : ∀ b, b < w.heap.size + 4 → ((w2.alloc (.cells #[.int .u64 0, .int .u64 0, .int .u64 0, .int .u64 0, .int .u64 0, .int .u64 0, .int .u64 0, .int .u64 0, .int .u64 0, .int .u64 0, .int .u64 0, .int .u64 0, .int .u64 0, .int .u64 0, .int .u64 0, .int .u64 0] 99)).setRow V (ar .u64 16 v)).heap[b]? = ((((w.alloc (.cells (ar .u64 8 h) 54)).alloc (.cells (ar .u64 16 m) 55)).alloc (.cells (ar .u64 2 t) 56)).alloc (.cells #[.int .u64 0, .int .u64 0, .int .u64 0, .int .u64 0, .int .u64 0, .int .u64 0, .int .u64 0, .int .u64 0] 54)).heap[b]? := fun b hb' => (setRow_other _ _ _ _ (by omega)).trans ((heap_alloc_old _ _ (by omega)).trans (hb.block _ (by omega)))
    refine ⟨below_setRow ((hb0.trans (hb.mono (by omega))).alloc (by omega) _) (by omega) _, (hk _ (by omega)).trans H4.out.1, (hk _ (by omega)).trans H4.out.2.1, (hk _ (by omega)).trans H4.out.2.2.2, setRow_heap _ _ _ _ _ _ (by rw [← hVe]; exact heap_alloc_new _ _), hs⟩)
  have HX := Lib.hid (And.intro hVe (show (w2.alloc (.cells #[.int .u64 0, .int .u64 0, .int .u64 0, .int .u64 0, .int .u64 0, .int .u64 0, .int .u64 0, .int .u64 0, .int .u64 0, .int .u64 0, .int .u64 0, .int .u64 0, .int .u64 0, .int .u64 0, .int .u64 0, .int .u64 0] 99)).heap[V]? = some (.cells #[.int .u64 0, .int .u64 0, .int .u64 0, .int .u64 0, .int .u64 0, .int .u64 0, .int .u64 0, .int .u64 0, .int .u64 0, .int .u64 0, .int .u64 0, .int .u64 0, .int .u64 0, .int .u64 0, .int .u64 0, .int .u64 0] 99 (0, 0)) from by rw [← hVe]; exact heap_alloc_new _ _))
  clear hb hs hVe H4 HB
  go_wp2_with (refine wpList_store_row rfl 99 _ _ rfl V (ar .u64 16 v) (by rw [← HX.out.1]; kernel_rfl) (by kernel_rfl) 99 #[.int .u64 0, .int .u64 0, .int .u64 0, .int .u64 0, .int .u64 0, .int .u64 0, .int .u64 0, .int .u64 0, .int .u64 0, .int .u64 0, .int .u64 0, .int .u64 0, .int .u64 0, .int .u64 0, .int .u64 0, .int .u64 0] (by exact HX.out.2) (by rw [ar_size]; exact infoNu) (by rw [ar_size]; rfl) (ar_one _ _ _) ?_)
  rw [HX.out.1]
  obtain ⟨w3, hw3⟩ : ∃ w3, ((w2.alloc (.cells #[.int .u64 0, .int .u64 0, .int .u64 0, .int .u64 0, .int .u64 0, .int .u64 0, .int .u64 0, .int .u64 0, .int .u64 0, .int .u64 0, .int .u64 0, .int .u64 0, .int .u64 0, .int .u64 0, .int .u64 0, .int .u64 0] 99)).setRow V (ar .u64 16 v)) = w3 := ⟨_, rfl⟩
  rw [hw3] at H5 ⊢
  clear hw3 HX hmin
  go_loopw [20] (fun i wr => ∃ k : Nat, k ≤ N ∧ i = .int .u32 k ∧ Hid (CF w h m (vrn v m k) V wr)) (fun i _ => N - (intOf i).toNat)
  case atStart => exact ⟨0, by omega, rfl, H5⟩
  case round =>
    obtain ⟨k, hk, rfl, H⟩ := hrel
    clear H5
    have hk0 : (0 : Int) ≤ k := by omega
    by_cases hlt : k < N
    · have hlt' : (k : Int) < N := by omega
      obtain ⟨q, hq⟩ : ∃ q, k % 10 = q := ⟨_, rfl⟩
      have hq10 : q < 10 := by omega
      have HRM := Lib.hid (show ∀ w, (binOp BinOp.rem 46 (.int .u32 k) (.int .u32 10)).run Tryd.prog w = .ok (.int .u32 (q : Nat)) w from fun w => by
        have e : (k : Int).tmod 10 = (q : Int) := by rw [Int.tmod_eq_emod_of_nonneg hk0]; omega
        go_simp)
      have HIX := Lib.hid (show ∀ w, (Instr.indexAt 104 (.pointer (some ⟨0, 0, none⟩)) (.int .u32 (q : Nat))).run Tryd.prog w = .ok (.pointer (some ⟨0, q * 16, none⟩)) w from fun w => by
        have h0 : (0 : Int) ≤ q := by omega
        have h1 : (q : Int) < 10 := by omega
        go_simp)
      have HLM := Lib.hid (fun wx (c : CF w h m (vrn v m k) V wx) => load_16u c.r1)
      have HLS := Lib.hid (fun wx (c : CF w h m (vrn v m k) V wx) => load_sig (HP.out.below c.old) hq10)
      have HOR := Lib.hid (show ∀ wx, CF w h m (vrn v m k) V wx → Calls Tryd.prog 66 #[.agg (ar .u64 16 m), .agg (ar .i64 16 fun j => (sig q j : Nat))] wx (fun e w' => e = .returned (.agg (ar .u64 16 (ord m (sig q)))) ∧ CF w h m (vrn v m k) V w') from fun wx c => (order_any m (sig q) (fun j hj => sig_lt q j hq10 hj) wx).mono (fun e w' h => ⟨h.1, c.below h.2⟩))
      have HRD := Lib.hid (show ∀ wx, CF w h m (vrn v m k) V wx → Calls Tryd.prog 65 #[.pointer (some ⟨V, 0, none⟩), .agg (ar .u64 16 (ord m (sig q)))] wx (fun e w' => e = .returned (.tuple #[]) ∧ CF w h m (vrn v m (k + 1)) V w') from fun wx c => (bround_any V (vrn v m k) (ord m (sig q)) wx c.rV).mono (fun e w' h => ⟨h.1, by
        have e1 : vrn v m (k + 1) = rnd (vrn v m k) (ord m (sig q)) := by rw [← hq]; rfl
        rw [e1]
        exact c.round h.2.1 h.2.2⟩))
      clear hq hq10
      go_wp2_with fail
      refine region_quiet_tail 6 (CF w h m (vrn v m k) V) (by kernel_rfl) (by kernel_rfl) (H.out.below (Below.drew (Below.refl _ _))) ?_
      simp only [List.take_succ_cons, List.take_zero, List.drop_succ_cons, List.drop_zero]
      with_reducible refine q_load 55 (.tmp 7) (.pointer (some ⟨w.heap.size + 1, 0, none⟩)) (.agg (ar .u64 16 m)) rfl (by kernel_rfl) (by kernel_rfl) HLM.out ?_
      with_reducible refine q_val (.int .u32 k) (by kernel_rfl) (fun _ _ => by kernel_rfl) ?_
      with_reducible refine q_bin .rem 46 _ _ 46 (.int .u32 k) (.int .u32 10) (.int .u32 (q : Nat)) rfl (by kernel_rfl) (by kernel_rfl) (by kernel_rfl) (fun _ => by kernel_rfl) HRM.out ?_
      with_reducible refine q_sem2 (Instr.indexAt 104 (.pointer (some ⟨0, 0, none⟩)) (.int .u32 (q : Nat))) (.pointer (some ⟨0, q * 16, none⟩)) (by kernel_rfl) (by kernel_rfl) (fun w' _ => HIX.out w') ?_
      with_reducible refine q_load 103 (.tmp 26) (.pointer (some ⟨0, q * 16, none⟩)) (.agg (ar .i64 16 fun j => (sig q j : Nat))) rfl (by kernel_rfl) (by kernel_rfl) HLS.out ?_
      with_reducible refine q_call 66 #[.agg (ar .u64 16 m), .agg (ar .i64 16 fun j => (sig q j : Nat))] (.agg (ar .u64 16 (ord m (sig q)))) (by kernel_rfl) (fun _ => by kernel_rfl) HOR.out ?_
      with_reducible refine wpQuiet_nil ?_
      intro wx hC
      have HC := Lib.hid hC
      clear hC H HLM HLS HOR
      simp only [Act.put, List.setIfInBounds_toArray, List.set_cons_succ, List.set_cons_zero]
      go_wp2_with fail
      refine (HRD.out _ HC.out).mono ?_
      rintro e w5 ⟨rfl, h5⟩
      have H5 := Lib.hid h5
      clear h5 HC HRD
      go_wp2_with fail
      go_roundw
      case rel => exact ⟨k + 1, by omega, by go_num, H5⟩
      case measure => simp [intOf]; omega
    · obtain rfl : k = N := by omega
      have hlt' : ¬ (k : Int) < k := by omega
      obtain ⟨u, hu⟩ : ∃ u, vrn v m k = u := ⟨_, rfl⟩
      rw [hu] at H
      have HU := Lib.hid hu
      clear hu
      go_wp2_with fail
      go_loopw [31] (fun i wr => ∃ j : Nat, j ≤ 8 ∧ i = .int .i64 j ∧ Hid (CF w (bfD h u j) m u V wr)) (fun i _ => 8 - (intOf i).toNat)
      case atStart =>
        refine ⟨0, by omega, rfl, ?_⟩
        rw [show bfD h u 0 = h from by funext i; unfold bfD; rw [if_neg (by omega)]]
        exact H
      case round =>
        obtain ⟨j, hj, rfl, H2⟩ := hrel
        clear H
        have hj0 : (0 : Int) ≤ j := by omega
        by_cases hjl : j < 8
        · have hjl' : (j : Int) < 8 := by omega
          obtain ⟨z, hz⟩ : ∃ z : Nat, (j : Int) + 8 = (z : Int) := ⟨j + 8, by omega⟩
          have hz0 : (0 : Int) ≤ z := by omega
          have hz1 : (z : Int) < 16 := by omega
          have hwz : IntKind.i64.wrap (z : Int) = (z : Int) := by rw [IntKind.wrap_i64]; omega
          have hj16 : (j : Int) < 16 := by omega
          have c0 : wr.cell? ⟨w.heap.size, j, none⟩ = some (.int .u64 (h j)) := ((cell_of_row wr _ j _ _ _ H2.out.r0).trans (ar_at _ _ _ _ hjl)).trans (by unfold bfD; rw [if_neg (by omega)])
          have f0 := frozen_of_row wr _ j _ _ H2.out.r0
          have c1 := cell_row16 H2.out.rV j (by omega)
          have c2 := cell_row16 H2.out.rV z (by omega)
          have HV := Lib.hid (show bits .xor .u64 (h j) (bits .xor .u64 (u j) (u z)) = bfi h u j from by unfold bfi; rw [show j + 8 = z by omega])
          have HVV := Lib.hid (show w.heap.size + 4 ≤ V from H2.out.hV)
          go_wp2_with fail
          go_region
          go_wp2
          go_roundw
          case rel =>
            refine ⟨j + 1, by omega, by go_num, Lib.hid ⟨(H2.out.old.setCell (by show w.heap.size ≤ w.heap.size; omega) _).drew, ?_, (heap_setCell_other _ _ _ _ (by show w.heap.size + 1 ≠ w.heap.size; omega)).trans H2.out.r1, (heap_setCell_other _ _ _ _ (by show w.heap.size + 1 + 1 + 1 ≠ w.heap.size; omega)).trans H2.out.r3, (heap_setCell_other _ _ _ _ (by have := HVV.out; show V ≠ w.heap.size; omega)).trans H2.out.rV, HVV.out⟩⟩
            refine (heap_setCell_same _ _ _ _ _ _ H2.out.r0).trans ?_
            rw [HV.out, ar_set _ _ _ _ _ hjl]
            congr 2
            exact ar_congr (fun i _ => bfD_next i)
          case measure => simp [intOf]; omega
        · obtain rfl : j = 8 := by omega
          have hjl' : ¬ ((8 : Nat) : Int) < 8 := by omega
          have hfull : ar .u64 8 (bfD h u 8) = ar .u64 8 (bfi h u) := ar_congr fun i hi => by unfold bfD; rw [if_pos hi]
          have h0 := H2.out.r0
          rw [hfull] at h0
          obtain ⟨ro, hro⟩ : ∃ ro, bfi h u = ro := ⟨_, rfl⟩
          rw [hro] at h0
          have H0 := Lib.hid (And.intro h0 (And.intro H2.out.r3 H2.out.old))
          have HRO := Lib.hid hro
          have HI : Hid ((Tryd.prog.info? 54).map (·.size) = some (ar .u64 8 ro).size) := Lib.hid (by rw [ar_size]; exact info8u)
          clear h0 hro hfull H2
          go_wp2_with (first | (refine wpList_load_row rfl 54 _ rfl w.heap.size rfl 54 (ar .u64 8 ro) (0, 0) _ (by exact H0.out.1) Tryd.underlying54 rfl HI.out ?_) | (refine wpList_store_row rfl 54 _ _ rfl (w.heap.size + 1 + 1 + 1) (ar .u64 8 ro) rfl rfl 54 #[.int .u64 0, .int .u64 0, .int .u64 0, .int .u64 0, .int .u64 0, .int .u64 0, .int .u64 0, .int .u64 0] (by exact H0.out.2.1) HI.out (by rw [ar_size]; rfl) (ar_one _ _ _) ?_))
          (try simp only [Act.put, List.setIfInBounds_toArray, List.set_cons_succ, List.set_cons_zero])
          refine bodyPost_ret (v := .agg (ar .u64 8 ro)) (results_cell_row (p := 10) rfl _ _ (w.heap.size + 1 + 1 + 1) 54 (ar .u64 8 ro) (0, 0) _ rfl (setRow_heap _ _ _ _ _ _ H0.out.2.1) Tryd.underlying54 rfl HI.out) rfl ⟨?_, below_setRow H0.out.2.2 (by omega) _⟩
          rw [HU.out, HRO.out]
end Go.Proofs.YtoeomlmnejhgpaaDoor

/- RIPEMD-160: the tables, out of what a row lists. -/
import Derived.Test.YtnnbpofdnhnjlaaDoorRows
import Derived.Test.YtnnbpofdnhnjlaaDoorRTab
import Derived.Lib.LaidTab
namespace Go.Proofs.YtnnbpofdnhnjlaaDoor
open Go.RowKit

/-- One listed variable's reading. -/
def VReads (P : Program) (w : World) (n : String) (d : DataW Unit) : Prop :=
  ∃ g t cs fuel p, P.globalNamed n = some g ∧ (P.globals[g]?).map (·.type) = some t ∧ w.var? P n = some cs ∧ DataW.trod (fun _ => ()) P w 0 (fun _ => true) false fuel t cs.toList = some (d, p)
theorem laidVars_reads {P : Program} {w : World} : ∀ {l : List (String × DataW Unit)} {ps : List MemPlace}, DataW.LaidVars P w l ps → ∀ n d, (n, d) ∈ l → VReads P w n d
  | [], _, _, _, _, hm => by cases hm
  | (n', d') :: r, ps, h, n, d, hm => by
    obtain ⟨g, t, cs, fuel, p, q, h1, h2, h3, h4, h5, _⟩ := h
    rcases List.mem_cons.1 hm with e | e
    · cases e
      exact ⟨g, t, cs, fuel, p, h1, h2, h3, h4⟩
    · exact laidVars_reads h5 n d e
theorem laid_reads {P : Program} {w : World} {l : List (String × DataW Unit)} (h : laidMet P l w) {n : String} {d : DataW Unit} (hm : (n, d) ∈ l) : VReads P w n d :=
  let ⟨_, hv, _⟩ := h
  laidVars_reads hv n d hm
/-- An array of arrays of integers. -/
theorem cells_of_tab2 {H : Type} {enc : TypeId × Value → H} {P : Program} {w : World} {base : Nat} {sp : Nat → Bool} {held : Bool} {fuel : Nat} {t e1 e : TypeId} {m n : Nat} {k : IntKind} {cs : List Value} {zss : List (List Int)} {p : List MemPlace}
    (ht : P.underlying t = some (.array m e1)) (he1 : P.underlying e1 = some (.array n e)) (he : P.underlying e = some (.int k)) (hce : P.cellsOf e = 1) (hc1 : P.cellsOf e1 = n) (hct : P.cellsOf t = m * n)
    (h : DataW.trod enc P w base sp held fuel t cs = some (.agg (zss.map (Lib.tabData k)), p)) (i : Nat) (hi : i < m) : (cs.drop (i * n)).take n = (zss.getD i []).map fun z => Value.int k z := by
  cases fuel with
  | zero => simp [DataW.trod] at h
  | succ fuel =>
    simp only [DataW.trod, ht, hc1, hct] at h
    split at h
    · rename_i hl
      obtain ⟨xs, hm, hx⟩ := Option.map_eq_some_iff.1 h
      have hxs : xs.map (·.1) = zss.map fun zs => (Lib.tabData k zs : DataW H) := by
        have := congrArg Prod.fst hx
        simpa using this
      obtain ⟨b, hb, hf⟩ := Lib.mapM_at hm i i (by simp [hi])
      have h2 : (xs.map (·.1))[i]? = some b.1 := by simp [hb]
      rw [hxs] at h2
      simp only [List.getElem?_map, Option.map_eq_some_iff] at h2
      obtain ⟨zs, hz, hzb⟩ := h2
      have h3 := Lib.cells_of_tab (zs := zs) (p := b.2) he1 he hce hc1 (by rw [hf, hzb])
      rw [h3]
      simp [List.getD_eq_getElem?_getD, hz]
    · cases h
theorem tab2_cell {P : Program} {w : World} {nm : String} {zss : List (List Int)} {g : Nat} {t e1 e : TypeId} {m n : Nat} {k : IntKind} (h : VReads P w nm (.agg (zss.map (Lib.tabData k)))) (hg : P.globalNamed nm = some g) (hty : (P.globals[g]?).map (·.type) = some t)
    (ht : P.underlying t = some (.array m e1)) (he1 : P.underlying e1 = some (.array n e)) (he : P.underlying e = some (.int k)) (hce : P.cellsOf e = 1) (hc1 : P.cellsOf e1 = n) (hct : P.cellsOf t = m * n) (hz : zss.all (fun l => l.length == n) = true) (hzm : zss.length = m) (i j : Nat) (hi : i < m) (hj : j < n) : w.cell? ⟨g, i * n + j, none⟩ = some (.int k ((zss.getD i []).getD j 0)) := by
  obtain ⟨g', t', cs, fuel, p, hg', ht', hvar, hd⟩ := h
  obtain rfl := Option.some.inj (hg.symm.trans hg')
  obtain rfl := Option.some.inj (hty.symm.trans ht')
  have h1 := cells_of_tab2 ht he1 he hce hc1 hct hd i hi
  have h2 := World.var?_cell hg hvar (i * n + j)
  rw [h2]
  have h3 := congrArg (·[j]?) h1
  simp only [List.getElem?_take, List.getElem?_drop, hj, if_true] at h3
  rw [← Array.getElem?_toList, h3]
  have hl : (zss.getD i []).length = n := by
    rw [List.all_eq_true] at hz
    have hi2 : i < zss.length := by omega
    have := hz (zss.getD i []) (by rw [List.getD_eq_getElem?_getD, List.getElem?_eq_getElem hi2]; exact List.getElem_mem hi2)
    simpa using this
  rw [List.getElem?_map, List.getD_eq_getElem?_getD (l := zss.getD i []), List.getElem?_eq_getElem (by omega)]
  rfl
theorem tab1_cell {P : Program} {w : World} {nm : String} {zs : List Int} {g : Nat} {t e : TypeId} {n : Nat} {k : IntKind} (h : VReads P w nm (Lib.tabData k zs)) (hg : P.globalNamed nm = some g) (hty : (P.globals[g]?).map (·.type) = some t)
    (ht : P.underlying t = some (.array n e)) (he : P.underlying e = some (.int k)) (hce : P.cellsOf e = 1) (hct : P.cellsOf t = n) (hz : zs.length = n) (j : Nat) (hj : j < n) : w.cell? ⟨g, j, none⟩ = some (.int k (zs.getD j 0)) := by
  obtain ⟨g', t', cs, fuel, p, hg', ht', hvar, hd⟩ := h
  obtain rfl := Option.some.inj (hg.symm.trans hg')
  obtain rfl := Option.some.inj (hty.symm.trans ht')
  have h1 := Lib.cells_of_tab ht he hce hct hd
  rw [World.var?_cell hg hvar j, ← Array.getElem?_toList, h1, List.getElem?_map, List.getD_eq_getElem?_getD, List.getElem?_eq_getElem (by omega)]
  rfl
theorem tab_firsts {w : World} (h : VReads Tryd.prog w "bailiwick/ripemd.firsts" Rows.laid_bailiwick_ripemd_firsts) (i j : Nat) (hi : i < 2) (hj : j < 16) : w.cell? ⟨3, i * 16 + j, none⟩ = some (.int .i64 (((firT i j : Nat) : Int))) := by
  rw [tab2_cell (zss := [[0, 1, 2, 3, 4, 5, 6, 7, 8, 9, 10, 11, 12, 13, 14, 15], [5, 14, 7, 0, 9, 2, 11, 4, 13, 6, 15, 8, 1, 10, 3, 12]]) h (by kernel_rfl) (by kernel_rfl) Tryd.underlying124 Tryd.underlying103 Tryd.underlying3 (by kernel_rfl) (by kernel_rfl) (by kernel_rfl) (by kernel_rfl) rfl i j hi hj]
  have h2 : ∀ i : Fin 2, ∀ j : Fin 16, (([[0, 1, 2, 3, 4, 5, 6, 7, 8, 9, 10, 11, 12, 13, 14, 15], [5, 14, 7, 0, 9, 2, 11, 4, 13, 6, 15, 8, 1, 10, 3, 12]] : List (List Int)).getD i []).getD j 0 = (fun (i j : Nat) => (((firT i j : Nat) : Int) : Int)) i j := by decide
  exact congrArg (fun z => some (Value.int .i64 z)) (h2 ⟨i, hi⟩ ⟨j, hj⟩)
theorem tab_mixes {w : World} (h : VReads Tryd.prog w "bailiwick/ripemd.mixes" Rows.laid_bailiwick_ripemd_mixes) (i j : Nat) (hi : i < 2) (hj : j < 5) : w.cell? ⟨4, i * 5 + j, none⟩ = some (.int .i64 (((mixT i j : Nat) : Int))) := by
  rw [tab2_cell (zss := [[0, 1, 2, 3, 4], [4, 3, 2, 1, 0]]) h (by kernel_rfl) (by kernel_rfl) Tryd.underlying126 Tryd.underlying125 Tryd.underlying3 (by kernel_rfl) (by kernel_rfl) (by kernel_rfl) (by kernel_rfl) rfl i j hi hj]
  have h2 : ∀ i : Fin 2, ∀ j : Fin 5, (([[0, 1, 2, 3, 4], [4, 3, 2, 1, 0]] : List (List Int)).getD i []).getD j 0 = (fun (i j : Nat) => (((mixT i j : Nat) : Int) : Int)) i j := by decide
  exact congrArg (fun z => some (Value.int .i64 z)) (h2 ⟨i, hi⟩ ⟨j, hj⟩)
theorem tab_constants {w : World} (h : VReads Tryd.prog w "bailiwick/ripemd.constants" Rows.laid_bailiwick_ripemd_constants) (i j : Nat) (hi : i < 2) (hj : j < 5) : w.cell? ⟨5, i * 5 + j, none⟩ = some (.int .u32 (conT i j)) := by
  rw [tab2_cell (zss := [[0, 1518500249, 1859775393, 2400959708, 2840853838], [1352829926, 1548603684, 1836072691, 2053994217, 0]]) h (by kernel_rfl) (by kernel_rfl) Tryd.underlying127 Tryd.underlying47 Tryd.underlying46 (by kernel_rfl) (by kernel_rfl) (by kernel_rfl) (by kernel_rfl) rfl i j hi hj]
  have h2 : ∀ i : Fin 2, ∀ j : Fin 5, (([[0, 1518500249, 1859775393, 2400959708, 2840853838], [1352829926, 1548603684, 1836072691, 2053994217, 0]] : List (List Int)).getD i []).getD j 0 = (fun (i j : Nat) => (conT i j : Int)) i j := by decide
  exact congrArg (fun z => some (Value.int .u32 z)) (h2 ⟨i, hi⟩ ⟨j, hj⟩)
theorem tab_turns {w : World} (h : VReads Tryd.prog w "bailiwick/ripemd.turns" Rows.laid_bailiwick_ripemd_turns) (i j : Nat) (hi : i < 5) (hj : j < 16) : w.cell? ⟨6, i * 16 + j, none⟩ = some (.int .i64 (((turT i j : Nat) : Int))) := by
  rw [tab2_cell (zss := [[11, 14, 15, 12, 5, 8, 7, 9, 11, 13, 14, 15, 6, 7, 9, 8], [12, 13, 11, 15, 6, 9, 9, 7, 12, 15, 11, 13, 7, 8, 7, 7], [13, 15, 14, 11, 7, 7, 6, 8, 13, 14, 13, 12, 5, 5, 6, 9], [14, 11, 12, 14, 8, 6, 5, 5, 15, 12, 15, 14, 9, 9, 8, 6], [15, 12, 13, 13, 9, 5, 8, 6, 14, 11, 12, 11, 8, 6, 5, 5]]) h (by kernel_rfl) (by kernel_rfl) Tryd.underlying128 Tryd.underlying103 Tryd.underlying3 (by kernel_rfl) (by kernel_rfl) (by kernel_rfl) (by kernel_rfl) rfl i j hi hj]
  have h2 : ∀ i : Fin 5, ∀ j : Fin 16, (([[11, 14, 15, 12, 5, 8, 7, 9, 11, 13, 14, 15, 6, 7, 9, 8], [12, 13, 11, 15, 6, 9, 9, 7, 12, 15, 11, 13, 7, 8, 7, 7], [13, 15, 14, 11, 7, 7, 6, 8, 13, 14, 13, 12, 5, 5, 6, 9], [14, 11, 12, 14, 8, 6, 5, 5, 15, 12, 15, 14, 9, 9, 8, 6], [15, 12, 13, 13, 9, 5, 8, 6, 14, 11, 12, 11, 8, 6, 5, 5]] : List (List Int)).getD i []).getD j 0 = (fun (i j : Nat) => (((turT i j : Nat) : Int) : Int)) i j := by decide
  exact congrArg (fun z => some (Value.int .i64 z)) (h2 ⟨i, hi⟩ ⟨j, hj⟩)
theorem tab_next {w : World} (h : VReads Tryd.prog w "bailiwick/ripemd.next" Rows.laid_bailiwick_ripemd_next) (j : Nat) (hj : j < 16) : w.cell? ⟨7, j, none⟩ = some (.int .i64 (nexT j : Nat)) := by
  rw [tab1_cell (zs := [7, 4, 13, 1, 10, 6, 15, 3, 12, 0, 9, 5, 2, 14, 11, 8]) h (by kernel_rfl) (by kernel_rfl) Tryd.underlying103 Tryd.underlying3 (by kernel_rfl) (by kernel_rfl) rfl j hj]
  have h2 : ∀ j : Fin 16, ([7, 4, 13, 1, 10, 6, 15, 3, 12, 0, 9, 5, 2, 14, 11, 8] : List Int).getD j 0 = ((nexT j : Nat) : Int) := by decide
  exact congrArg (fun z => some (Value.int .i64 z)) (h2 ⟨j, hj⟩)
/-- The tables lie as the row lists them. -/
theorem tabs_of {w : World} (h : laidMet Tryd.prog Rows.ripemdBlocksRow.laid w) : Tabs w :=
  ⟨fun l k a b => tab_firsts (laid_reads h (by simp [Rows.ripemdBlocksRow])) l k a b, fun l q a b => tab_mixes (laid_reads h (by simp [Rows.ripemdBlocksRow])) l q a b, fun l q a b => tab_constants (laid_reads h (by simp [Rows.ripemdBlocksRow])) l q a b, fun q p a b => tab_turns (laid_reads h (by simp [Rows.ripemdBlocksRow])) q p a b, fun p a => tab_next (laid_reads h (by simp [Rows.ripemdBlocksRow])) p a⟩
end Go.Proofs.YtnnbpofdnhnjlaaDoor

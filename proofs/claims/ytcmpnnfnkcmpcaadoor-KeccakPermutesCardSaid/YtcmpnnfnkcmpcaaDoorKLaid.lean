/- The tables, out of what a row lists. -/
import Derived.Test.YtcmpnnfnkcmpcaaDoorRows
import Derived.Test.YtcmpnnfnkcmpcaaDoorKMove
import Derived.Lib.LaidTab
namespace Go.Proofs.YtcmpnnfnkcmpcaaDoor
open Go.RowKit

/-- One listed variable's reading. -/
def VReads (P : Program) (w : World) (n : String) (d : DataW Unit) : Prop :=
  ∃ g t cs fuel p, P.globalNamed n = some g ∧ (P.globals[g]?).map (·.type) = some t ∧ w.var? P n = some cs ∧ DataW.trod (fun _ => ()) P w 0 (fun _ => true) false fuel t cs.toList = some (d, p)
theorem laidVars_reads {P : Program} {w : World} : ∀ {l : List (String × DataW Unit)} {ps : List MemPlace}, DataW.LaidVars P w l ps → ∀ n d, (n, d) ∈ l → VReads P w n d
  | [], _, _, _, _, hm => by cases hm
  | (n', d') :: r, ps, h, n, d, hm => by
    obtain ⟨g, t, cs, fuel, p, q, h1, h2, h3, h4, h5, _⟩ := h
    rcases List.mem_cons.1 hm with e | e
    · cases e
      exact ⟨g, t, cs, fuel, p, h1, h2, h3, h4⟩
    · exact laidVars_reads h5 n d e
theorem laid_reads {P : Program} {w : World} {l : List (String × DataW Unit)} (h : laidMet P l w) {n : String} {d : DataW Unit} (hm : (n, d) ∈ l) : VReads P w n d :=
  let ⟨_, hv, _⟩ := h
  laidVars_reads hv n d hm
theorem tab1_cell {P : Program} {w : World} {nm : String} {zs : List Int} {g : Nat} {t e : TypeId} {n : Nat} {k : IntKind} (h : VReads P w nm (Lib.tabData k zs)) (hg : P.globalNamed nm = some g) (hty : (P.globals[g]?).map (·.type) = some t)
    (ht : P.underlying t = some (.array n e)) (he : P.underlying e = some (.int k)) (hce : P.cellsOf e = 1) (hct : P.cellsOf t = n) (hz : zs.length = n) (j : Nat) (hj : j < n) : w.cell? ⟨g, j, none⟩ = some (.int k (zs.getD j 0)) := by
  obtain ⟨g', t', cs, fuel, p, hg', ht', hvar, hd⟩ := h
  obtain rfl := Option.some.inj (hg.symm.trans hg')
  obtain rfl := Option.some.inj (hty.symm.trans ht')
  have h1 := Lib.cells_of_tab ht he hce hct hd
  rw [World.var?_cell hg hvar j, ← Array.getElem?_toList, h1, List.getElem?_map, List.getD_eq_getElem?_getD, List.getElem?_eq_getElem (by omega)]
  rfl
theorem tab_path {w : World} (h : VReads Tryd.prog w "bailiwick/keccak.path" Rows.laid_bailiwick_keccak_path) (j : Nat) (hj : j < 24) : w.cell? ⟨2, j, none⟩ = some (.int .i64 (pthT j : Nat)) := by
  rw [tab1_cell (zs := [10, 7, 11, 17, 18, 3, 5, 16, 8, 21, 24, 4, 15, 23, 19, 13, 12, 2, 20, 14, 22, 9, 6, 1]) h (by kernel_rfl) (by kernel_rfl) Tryd.underlying83 Tryd.underlying3 (by kernel_rfl) (by kernel_rfl) rfl j hj]
  have h2 : ∀ j : Fin 24, ([10, 7, 11, 17, 18, 3, 5, 16, 8, 21, 24, 4, 15, 23, 19, 13, 12, 2, 20, 14, 22, 9, 6, 1] : List Int).getD j 0 = ((pthT j : Nat) : Int) := by decide +kernel
  exact congrArg (fun z => some (Value.int .i64 z)) (h2 ⟨j, hj⟩)
theorem tab_rcs {w : World} (h : VReads Tryd.prog w "bailiwick/keccak.roundConstants" Rows.laid_bailiwick_keccak_roundConstants) (j : Nat) (hj : j < 24) : w.cell? ⟨0, j, none⟩ = some (.int .u64 (rcT j)) := by
  rw [tab1_cell (zs := [1, 32898, 9223372036854808714, 9223372039002292224, 32907, 2147483649, 9223372039002292353, 9223372036854808585, 138, 136, 2147516425, 2147483658, 2147516555, 9223372036854775947, 9223372036854808713, 9223372036854808579, 9223372036854808578, 9223372036854775936, 32778, 9223372039002259466, 9223372039002292353, 9223372036854808704, 2147483649, 9223372039002292232]) h (by kernel_rfl) (by kernel_rfl) Tryd.underlying71 Tryd.underlying34 (by kernel_rfl) (by kernel_rfl) rfl j hj]
  have h2 : ∀ j : Fin 24, ([1, 32898, 9223372036854808714, 9223372039002292224, 32907, 2147483649, 9223372039002292353, 9223372036854808585, 138, 136, 2147516425, 2147483658, 2147516555, 9223372036854775947, 9223372036854808713, 9223372036854808579, 9223372036854808578, 9223372036854775936, 32778, 9223372039002259466, 9223372039002292353, 9223372036854808704, 2147483649, 9223372039002292232] : List Int).getD j 0 = rcT j := by decide +kernel
  exact congrArg (fun z => some (Value.int .u64 z)) (h2 ⟨j, hj⟩)
/-- The tables lie as the row lists them. -/
theorem tabs_of {w : World} {l : List (String × DataW Unit)} (h : laidMet Tryd.prog l w) (m1 : ("bailiwick/keccak.path", Rows.laid_bailiwick_keccak_path) ∈ l) (m2 : ("bailiwick/keccak.roundConstants", Rows.laid_bailiwick_keccak_roundConstants) ∈ l) : KTab w :=
  ⟨fun t ht => tab_path (laid_reads h m1) t ht, fun t ht => tab_rcs (laid_reads h m2) t ht⟩
end Go.Proofs.YtcmpnnfnkcmpcaaDoor

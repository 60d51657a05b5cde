/- RIPEMD-160: the tables, as cells; a part of an array loaded. -/
import Derived.Test.YtoeomlmnejhgpaaDoorRSplit
namespace Go.Proofs.YtoeomlmnejhgpaaDoor
open Go.RowKit

def conT (l q : Nat) : Int := (if l = 0 then [0, 1518500249, 1859775393, 2400959708, 2840853838] else [1352829926, 1548603684, 1836072691, 2053994217, 0]).getD q 0
def mixT (l q : Nat) : Nat := if l = 0 then q else 4 - q
def firT (l k : Nat) : Nat := if l = 0 then k else (9 * k + 5) % 16
def nexT (p : Nat) : Nat := [7, 4, 13, 1, 10, 6, 15, 3, 12, 0, 9, 5, 2, 14, 11, 8].getD p 0
def turT (q p : Nat) : Nat := (([[11, 14, 15, 12, 5, 8, 7, 9, 11, 13, 14, 15, 6, 7, 9, 8], [12, 13, 11, 15, 6, 9, 9, 7, 12, 15, 11, 13, 7, 8, 7, 7], [13, 15, 14, 11, 7, 7, 6, 8, 13, 14, 13, 12, 5, 5, 6, 9], [14, 11, 12, 14, 8, 6, 5, 5, 15, 12, 15, 14, 9, 9, 8, 6], [15, 12, 13, 13, 9, 5, 8, 6, 14, 11, 12, 11, 8, 6, 5, 5]] : List (List Nat)).getD q []).getD p 0
/-- The place at k of a row of a line. -/
def plc (l : Nat) : Nat → Nat → Nat
  | 0, k => firT l k
  | q + 1, k => nexT (plc l q k)
theorem nexT_lt (p : Nat) (h : p < 16) : nexT p < 16 := by
  have : ∀ p : Fin 16, nexT p < 16 := by decide
  exact this ⟨p, h⟩
theorem plc_lt (l : Nat) (hl : l < 2) : ∀ q k, k < 16 → plc l q k < 16
  | 0, k, h => by
    unfold plc firT
    split
    · exact h
    · omega
  | q + 1, k, h => nexT_lt _ (plc_lt l hl q k h)
theorem turT_bd (q p : Nat) (hq : q < 5) (hp : p < 16) : 0 < turT q p ∧ turT q p < 16 := by
  have : ∀ q : Fin 5, ∀ p : Fin 16, 0 < turT q p ∧ turT q p < 16 := by decide
  exact this ⟨q, hq⟩ ⟨p, hp⟩
/-- The tables lie as the program lays them. -/
structure Tabs (w : World) : Prop where
  fir : ∀ l k, l < 2 → k < 16 → w.cell? ⟨3, l * 16 + k, none⟩ = some (.int .i64 (firT l k : Nat))
  mix : ∀ l q, l < 2 → q < 5 → w.cell? ⟨4, l * 5 + q, none⟩ = some (.int .i64 (mixT l q : Nat))
  con : ∀ l q, l < 2 → q < 5 → w.cell? ⟨5, l * 5 + q, none⟩ = some (.int .u32 (conT l q))
  tur : ∀ q p, q < 5 → p < 16 → w.cell? ⟨6, q * 16 + p, none⟩ = some (.int .i64 (turT q p : Nat))
  nex : ∀ p, p < 16 → w.cell? ⟨7, p, none⟩ = some (.int .i64 (nexT p : Nat))
theorem keep_cell {w w' : World} {g o : Nat} {v : Value} (h : w.cell? ⟨g, o, none⟩ = some v) (hb : Below w.heap.size w w') : w'.cell? ⟨g, o, none⟩ = some v :=
  (hb.cell (p := ⟨g, o, none⟩) (block_lt_of_cell h)).trans h
theorem Tabs.below {w w' : World} (h : Tabs w) (hb : Below w.heap.size w w') : Tabs w' :=
  ⟨fun l k a b => keep_cell (h.fir l k a b) hb, fun l k a b => keep_cell (h.mix l k a b) hb, fun l k a b => keep_cell (h.con l k a b) hb, fun l k a b => keep_cell (h.tur l k a b) hb, fun p a => keep_cell (h.nex p a) hb⟩
theorem run_loadVar_part {P : Program} (w : World) (g o n : Nat) (ty : TypeId) (k : IntKind) (f : Nat → Int) (d : TypeDesc) (hc : ∀ j, j < n → w.cell? ⟨g, o + j, none⟩ = some (.int k (f j)))
    (hu : P.underlying ty = some d) (hd : (match d with | .struct _ | .array _ _ => true | _ => false) = true) (hi : (P.info? ty).map (·.size) = some n) :
    (loadVar ty ⟨g, o, none⟩).run P w = .ok (.agg (ar k n f)) w := by
  have hl : (loadCells ⟨g, o, none⟩ (ar k n f).toList.length).run P w = .ok (ar k n f).toList.toArray w :=
    run_loadCells_list (P := P) w ⟨g, o, none⟩ (ar k n f).toList (fun j v hv => by
      have hjn : j < n := by
        have := (List.getElem?_eq_some_iff.1 hv).1
        rwa [Array.length_toList, ar_size] at this
      have hadd : (⟨g, o, none⟩ : Addr).add j = ⟨g, o + j, none⟩ := by unfold Addr.add; split <;> simp_all
      rw [hadd, hc j hjn]
      have h2 := ar_at k n f j hjn
      rw [← Array.getElem?_toList] at h2
      rw [← hv, h2])
  cases hq : P.info? ty with
  | none => simp [hq] at hi
  | some i =>
    have hs : i.size = n := by simpa [hq] using hi
    have hagg : (isAgg ty).run P w = .ok true w := by
      unfold isAgg
      rw [Sem.run_bind, run_underlying hu w]
      cases d <;> simp_all
    simp only [Array.length_toList, Array.toArray_toList, ar_size] at hl
    simp [loadVar, Sem.run_bind, hagg, sizeOf, typeInfo, hq, hs, hl]
theorem wpList_load_part {P : Program} {ops : Array Oper} {rest : List Oper} {o : Oper} {a : Act} {w : World} {Q : Exit → Act → World → Prop} (hgd : o.guard = none) (ty : TypeId) (x : Operand) (ho : o.op = .load ty x)
    (g off n : Nat) (k : IntKind) (f : Nat → Int) (hx : a.eval x = .pointer (some ⟨g, off, none⟩)) (d : TypeDesc) (hc : ∀ j, j < n → w.cell? ⟨g, off + j, none⟩ = some (.int k (f j)))
    (hu : P.underlying ty = some d) (hd : (match d with | .struct _ | .array _ _ => true | _ => false) = true) (hi : (P.info? ty).map (·.size) = some n)
    (h : wpList P ops Q rest (a.put o.dst (.agg (ar k n f))) w) : wpList P ops Q (o :: rest) a w :=
  wpList_plain hgd fun _ hK => by
    unfold Oper.wp execOp
    simp only [ho, hx, Instr.loadAt, Instr.sureAddr, Sem.run_bind, Sem.run_pure, Result.andThen_ok, run_loadVar_part w g off n ty k f d hc hu hd hi]
    exact hK _ _ h
end Go.Proofs.YtoeomlmnejhgpaaDoor

/- A word among the arguments, opened; what a row of this seat asks besides: the witness's world, with its three tables laid. -/
import Derived.Test.YthfadinocadhaaaDoorCards
import Derived.Test.YthfadinocadhaaaDoorTie
import Derived.Test.YthfadinocadhaaaDoorNum
import Derived.WalkKit
import Derived.ProofKit
import Derived.OpenShut
import Derived.Deep.DeepHandedRow
import Derived.Lib.LaidTab
import Derived.Laws.IdiomArrays
namespace Go.Proofs.YthfadinocadhaaaDoor
open Go.ChangeShapes Go.WideShapes Go.ChangeAt Go.RowKit

theorem ownF : ownKnob Tryd.prog.godebug = none := by kernel_rfl
theorem laidOutF : laidOutB Tryd.prog = true := by kernel_rfl
theorem cellsU64 : Tryd.prog.cellsOf 22 = 1 := by kernel_rfl
theorem cellsWord : Tryd.prog.cellsOf 24 = 4 := by kernel_rfl

theorem list4 {α : Type} (l : List α) (h : (⟨l⟩ : Array α).size = 4) : ∃ a b c d, l = [a, b, c, d] := by
  match l, h with
  | [a, b, c, d], _ => exact ⟨a, b, c, d, rfl⟩

theorem nat_of_wf {x : Int} (h : (Lit.int .u64 x).wf = true) : ∃ n : Nat, n < 18446744073709551616 ∧ x = (n : Int) := by
  obtain ⟨h0, h1⟩ := bounds_u64 h
  clear h
  obtain ⟨n, rfl⟩ := Int.eq_ofNat_of_zero_le h0
  exact ⟨n, by omega, rfl⟩

set_option maxRecDepth 100000 in
/-- A WORD AMONG THE ARGUMENTS is the value of a number. -/
theorem open_word {H : Type} {enc : TypeId × Value → H} {W : World} {base b2 : Nat} {sp : Nat → Bool} {hd : Bool} {v : Value} {d : DataW H} {ps : List MemPlace}
    (hv : Value.okWide Tryd.prog W .any base 24 v) (h : DataW.Trod enc Tryd.prog W b2 sp hd 24 v d ps) : ∃ x : Nat, v = wv x := by
  obtain ⟨cs, rfl, hsz, _⟩ : ∃ cs, v = .agg cs ∧ cs.size = Tryd.prog.cellsOf 24 ∧ Row.okWide Tryd.prog W .any base 24 cs := by
    simpa [Value.okWide, Tryd.underlying24] using hv
  rw [cellsWord] at hsz
  obtain ⟨l⟩ := cs
  obtain ⟨c0, c1, c2, c3, rfl⟩ := list4 l hsz
  obtain ⟨fuel, hf⟩ := h
  obtain ⟨y0, y1, y2, y3, m, hx, hy0, hy1, hy2, hy3⟩ := trod_array4 Tryd.underlying24 cellsU64 hf
  obtain ⟨x0, e0, rfl, w0⟩ := DataW.trod_int Tryd.underlying22 hy0
  obtain ⟨x1, e1, rfl, w1⟩ := DataW.trod_int Tryd.underlying22 hy1
  obtain ⟨x2, e2, rfl, w2⟩ := DataW.trod_int Tryd.underlying22 hy2
  obtain ⟨x3, e3, rfl, w3⟩ := DataW.trod_int Tryd.underlying22 hy3
  simp at e0 e1 e2 e3
  subst e0 e1 e2 e3
  obtain ⟨n0, l0, rfl⟩ := nat_of_wf w0
  obtain ⟨n1, l1, rfl⟩ := nat_of_wf w1
  obtain ⟨n2, l2, rfl⟩ := nat_of_wf w2
  obtain ⟨n3, l3, rfl⟩ := nat_of_wf w3
  exact ⟨n4 n0 n1 n2 n3, (wv_n4 l0 l1 l2 l3).symm⟩

/-- The cells of a table as a row lists it. -/
def valsOf : DataW Unit → Array Value
  | .agg l => (l.map fun x => match x with
    | .lit (.int k z) => Value.int k z
    | _ => undef).toArray
  | _ => #[]
def layAt (w : World) (b : Nat) (vs : Array Value) : World := { w with heap := w.heap.modify b fun
      | .cells _ t frozen => .cells vs t frozen
      | o => o }
/-- A WORLD FOR THE WITNESS: the settled one, the three tables holding what their initialisers lay. -/
noncomputable def laidWorld (os : Os) : World :=
  layAt (layAt (layAt (World.holding Tryd.prog os ⟨#[], #[], []⟩) 4 (valsOf Rows.laid_math_bits_deBruijn32tab)) 5 (valsOf Rows.laid_math_bits_deBruijn64tab)) 0 (valsOf Rows.laid_internal_strconv_uint64pow10)
end Go.Proofs.YthfadinocadhaaaDoor

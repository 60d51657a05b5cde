/- A byte among the arguments, opened. -/
import Derived.Test.YtgegkffigjogcaaNOpen
import Derived.ChangeShapes
namespace Go.Proofs.Ytgegkffigjogcaa
open Go.ChangeShapes Go.WideShapes Go.ChangeAt Go.RowKit

set_option maxRecDepth 100000 in
theorem open_byte {H : Type} {enc : TypeId × Value → H} {W : World} {base b2 : Nat} {sp : Nat → Bool} {hd : Bool} {v : Value} {d : DataW H} {ps : List MemPlace}
    (hv : Value.okWide Try.prog W .any base 5 v) (h : DataW.Trod enc Try.prog W b2 sp hd 5 v d ps) : ∃ x : Nat, x < 256 ∧ v = .int .u8 (x : Nat) := by
  obtain ⟨z, rfl, -, -, w⟩ := open_int Try.underlying5 hv h
  obtain ⟨h0, h1⟩ := bounds_u8 w
  clear h hv w
  obtain ⟨n, rfl⟩ := Int.eq_ofNat_of_zero_le h0
  exact ⟨n, by omega, rfl⟩
end Go.Proofs.Ytgegkffigjogcaa

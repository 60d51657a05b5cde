/- A number of 16 or of 32 bits among the arguments, opened. -/
import Derived.Test.YtgegkffigjogcaaNOpen
import Derived.ChangeShapes
namespace Go.Proofs.Ytgegkffigjogcaa
open Go.ChangeShapes Go.WideShapes Go.ChangeAt Go.RowKit

set_option maxRecDepth 100000 in
theorem open_u16 {H : Type} {enc : TypeId × Value → H} {W : World} {base b2 : Nat} {sp : Nat → Bool} {hd : Bool} {v : Value} {d : DataW H} {ps : List MemPlace}
    (hv : Value.okWide Try.prog W .any base 31 v) (h : DataW.Trod enc Try.prog W b2 sp hd 31 v d ps) : ∃ x : Nat, x < 65536 ∧ v = .int .u16 (x : Nat) := by
  obtain ⟨z, rfl, -, -, w⟩ := open_int Try.underlying31 hv h
  have hw : 0 ≤ z ∧ z ≤ 65535 := by simpa [Lit.wf, IntKind.min, IntKind.max, IntKind.signed, IntKind.bits] using w
  clear h hv w
  obtain ⟨n, rfl⟩ := Int.eq_ofNat_of_zero_le hw.1
  exact ⟨n, by omega, rfl⟩
set_option maxRecDepth 100000 in
theorem open_u32 {H : Type} {enc : TypeId × Value → H} {W : World} {base b2 : Nat} {sp : Nat → Bool} {hd : Bool} {v : Value} {d : DataW H} {ps : List MemPlace}
    (hv : Value.okWide Try.prog W .any base 32 v) (h : DataW.Trod enc Try.prog W b2 sp hd 32 v d ps) : ∃ x : Nat, x < 4294967296 ∧ v = .int .u32 (x : Nat) := by
  obtain ⟨z, rfl, -, -, w⟩ := open_int Try.underlying32 hv h
  have hw : 0 ≤ z ∧ z ≤ 4294967295 := by simpa [Lit.wf, IntKind.min, IntKind.max, IntKind.signed, IntKind.bits] using w
  clear h hv w
  obtain ⟨n, rfl⟩ := Int.eq_ofNat_of_zero_le hw.1
  exact ⟨n, by omega, rfl⟩
end Go.Proofs.Ytgegkffigjogcaa

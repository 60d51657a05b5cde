/- A list of numbers among an argument's fields, opened. -/
import Derived.Test.YtgegkffigjogcaaNOpen
import Derived.Lib.SmallJoins
namespace Go.Proofs.Ytgegkffigjogcaa
open Go.ChangeShapes Go.WideShapes Go.ChangeAt Go.RowKit

theorem open_natc {H : Type} {enc : TypeId × Value → H} {W : World} {b2 : Nat} {hd : Bool} {fuel : Nat} {v : Value} {x : DataW H × List MemPlace}
    (hf : DataW.trod enc Try.prog W b2 (fun _ => true) hd fuel 23 [v] = some x) : ∃ (n : Nat) (f : Nat → Nat), ArgN W v n f ∧ ∀ j, j < n → f j < 4294967296 := by
  rcases open_ints Try.underlying23 Try.underlying32 cellsU32 hf with ⟨hcs, -⟩ | ⟨a, len, cap, zs, hcs, -, hl, hm, hz, -, hcell, hwz⟩
  · simp at hcs
    subst hcs
    exact ⟨0, fun _ => 0, ⟨none, 0, rfl, Nat.le_refl _, fun _ => rfl, .inl rfl⟩, fun j hj => by omega⟩
  · simp at hcs
    subst hcs
    simp only [if_true] at hz
    have hr := fun j => range_u32 hwz j
    refine ⟨len, fun j => (zs.getD j 0).toNat, ⟨some a, cap, rfl, hl, (fun h => by cases h), ?_⟩, fun j hj => ?_⟩
    · rcases Nat.eq_zero_or_pos len with h0 | h0
      · exact .inl h0
      · obtain ⟨ab, ao, spot⟩ := a
        have hspot : spot = none := by simpa [Addr.add] using World.cell?_spot (hcell 0 (by omega))
        subst hspot
        refine .inr ⟨ab, ao, rfl, by simpa [Addr.add] using World.block_lt_of_cell? W _ (hcell 0 (by omega)), fun j hj => ?_⟩
        have hc := hcell j (by omega)
        rw [Addr.add_lit] at hc
        rw [hc]
        have h1 := hr j
        rw [← List.getD_eq_getElem?_getD] at h1
        show _ = some (Value.int .u32 (((zs.getD j 0).toNat : Nat) : Int))
        rw [Int.toNat_of_nonneg h1.1]
    · have h1 := hr j
      rw [← List.getD_eq_getElem?_getD] at h1
      show (zs.getD j 0).toNat < 4294967296
      omega
end Go.Proofs.Ytgegkffigjogcaa

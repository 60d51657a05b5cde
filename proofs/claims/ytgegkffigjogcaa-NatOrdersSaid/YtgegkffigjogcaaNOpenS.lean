/- A list of numbers among the arguments, opened, its length told; what the form's own reach says of it. -/
import Derived.Test.YtgegkffigjogcaaNOpen
import Derived.SizedLaws
namespace Go.Proofs.Ytgegkffigjogcaa
open Go.ChangeShapes Go.WideShapes Go.ChangeAt Go.RowKit

theorem lits_len {H : Type} (k : IntKind) (zs : List Int) : (lits (H := H) k zs).length = zs.length := by simp [lits]
theorem open_natS {H : Type} {enc : TypeId × Value → H} {W : World} {base b2 : Nat} {hd : Bool} {v : Value} {d : DataW H} {ps : List MemPlace}
    (hv : Value.okWide Try.prog W .any base 23 v) (h : DataW.Trod enc Try.prog W b2 (fun _ => true) hd 23 v d ps) :
    ∃ (n : Nat) (f : Nat → Nat), ArgN W v n f ∧ (∀ j, j < n → f j < 4294967296) ∧ (n = 0 ∨ ∃ l s, d = .slice l s ∧ l.length = n) := by
  obtain ⟨a0, len, cap, rfl⟩ := okWide_slice Try.underlying23 hv
  obtain ⟨fuel, hf⟩ := h
  rcases open_ints Try.underlying23 Try.underlying32 cellsU32 hf with ⟨hcs, -⟩ | ⟨a, len', cap', zs, hcs, -, hl, hm, hz, hx, hcell, hwz⟩
  · simp [Value.cells] at hcs
    obtain ⟨rfl, rfl, rfl⟩ := hcs
    exact ⟨0, fun _ => 0, ⟨none, 0, rfl, Nat.le_refl _, fun _ => rfl, .inl rfl⟩, fun j hj => by omega, .inl rfl⟩
  · simp [Value.cells] at hcs
    obtain ⟨rfl, rfl, rfl⟩ := hcs
    simp only [if_true] at hz
    have hr := fun j => range_u32 hwz j
    have hd' : d = .slice (lits .u32 (zs.take len)) (lits .u32 (zs.drop len)) := congrArg Prod.fst hx
    refine ⟨len, fun j => (zs.getD j 0).toNat, ⟨some a, cap, rfl, hl, (fun h => by cases h), ?_⟩, fun j hj => ?_, .inr ⟨_, _, hd', by rw [lits_len, List.length_take]; omega⟩⟩
    · rcases Nat.eq_zero_or_pos len with h0 | h0
      · exact .inl h0
      · obtain ⟨ab, ao, spot⟩ := a
        have hspot : spot = none := by simpa [Addr.add] using World.cell?_spot (hcell 0 (by omega))
        subst hspot
        refine .inr ⟨ab, ao, rfl, by simpa [Addr.add] using World.block_lt_of_cell? W _ (hcell 0 (by omega)), fun j hj => ?_⟩
        have hc := hcell j (by omega)
        rw [Addr.add_lit] at hc
        rw [hc]
        have h1 := hr j
        rw [← List.getD_eq_getElem?_getD] at h1
        show _ = some (Value.int .u32 (((zs.getD j 0).toNat : Nat) : Int))
        rw [Int.toNat_of_nonneg h1.1]
    · have h1 := hr j
      rw [← List.getD_eq_getElem?_getD] at h1
      show (zs.getD j 0).toNat < 4294967296
      omega
theorem bytesU32 : Try.prog.bytesOf 32 = 4 := by kernel_rfl
/-- WHAT THE FORM's REACH SAYS of a list of numbers. -/
theorem nat_sized {H : Type} {ts : List TypeId} {ds : List (DataW H)} (h : (DataW.weightsEach Try.prog ts ds).all (· ≤ reachBytes) = true) {j : Nat} {d : DataW H} {n : Nat} (ht : ts[j]? = some 23) (hd : ds[j]? = some d) (hn : n = 0 ∨ ∃ l s, d = .slice l s ∧ l.length = n) : (n : Int) ≤ 35184372088800 := by
  rcases hn with rfl | ⟨l, s, rfl, rfl⟩
  · omega
  · have := sized_slice h ht hd Try.underlying23
    rw [bytesU32] at this
    unfold reachBytes at this
    omega
end Go.Proofs.Ytgegkffigjogcaa

/- Bytes among the arguments, opened. -/
import Derived.Test.YtoeomlmnejhgpaaDoorBOpen
import Derived.Test.YtoeomlmnejhgpaaDoorBBy
namespace Go.Proofs.YtoeomlmnejhgpaaDoor
open Go.ChangeShapes Go.WideShapes Go.ChangeAt Go.RowKit

theorem lits_len {H : Type} (k : IntKind) (zs : List Int) : (lits (H := H) k zs).length = zs.length := by simp [lits]
theorem range_u8' {zs : List Int} (hw : ∀ n ∈ zs, (Lit.int .u8 n).wf = true) (j : Nat) : 0 ≤ zs.getD j 0 ∧ zs.getD j 0 ≤ 255 := by
  rcases Nat.lt_or_ge j zs.length with h | h
  · have h1 := hw (zs.getD j 0) (by rw [List.getD_eq_getElem?_getD, List.getElem?_eq_getElem h]; exact List.getElem_mem h)
    simpa [Lit.wf, IntKind.min, IntKind.max, IntKind.signed, IntKind.bits] using h1
  · rw [List.getD_eq_getElem?_getD, List.getElem?_eq_none h]
    decide
set_option maxRecDepth 100000 in
/-- BYTES AMONG THE ARGUMENTS. -/
theorem open_bytesS {H : Type} {enc : TypeId × Value → H} {W : World} {base b2 : Nat} {hd : Bool} {v : Value} {d : DataW H} {ps : List MemPlace}
    (hv : Value.okWide Tryd.prog W .any base 22 v) (h : DataW.Trod enc Tryd.prog W b2 (fun _ => true) hd 22 v d ps) :
    ∃ (n : Nat) (f : Nat → Nat), ArgB W v n f ∧ (∀ j, f j < 256) ∧ (n = 0 ∨ ∃ l s, d = .slice l s ∧ l.length = n) := by
  obtain ⟨a0, len, cap, rfl⟩ := okWide_slice Tryd.underlying22 hv
  obtain ⟨fuel, hf⟩ := h
  rcases open_ints Tryd.underlying22 Tryd.underlying5 cellsU8 hf with ⟨hcs, -⟩ | ⟨a, len', cap', zs, hcs, -, hl, hm, hz, hx, hcell, hwz⟩
  · simp [Value.cells] at hcs
    obtain ⟨rfl, rfl, rfl⟩ := hcs
    exact ⟨0, fun _ => 0, ⟨none, 0, rfl, Nat.le_refl _, fun _ => rfl, .inl rfl⟩, fun j => (by show (0 : Nat) < 256; omega), .inl rfl⟩
  · simp [Value.cells] at hcs
    obtain ⟨rfl, rfl, rfl⟩ := hcs
    simp only [if_true] at hz
    have hr := fun j => range_u8' hwz j
    have hd' : d = .slice (lits .u8 (zs.take len)) (lits .u8 (zs.drop len)) := congrArg Prod.fst hx
    refine ⟨len, fun j => (zs.getD j 0).toNat, ⟨some a, cap, rfl, hl, (fun h => by cases h), ?_⟩, fun j => ?_, .inr ⟨_, _, hd', by rw [lits_len, List.length_take]; omega⟩⟩
    · rcases Nat.eq_zero_or_pos len with h0 | h0
      · exact .inl h0
      · obtain ⟨ab, ao, spot⟩ := a
        have hspot : spot = none := by simpa [Addr.add] using World.cell?_spot (hcell 0 (by omega))
        subst hspot
        refine .inr ⟨ab, ao, rfl, by simpa [Addr.add] using World.block_lt_of_cell? W _ (hcell 0 (by omega)), fun j hj => ?_⟩
        have hc := hcell j (by omega)
        rw [Addr.add_lit] at hc
        rw [hc]
        have h1 := hr j
        show _ = some (Value.int .u8 (((zs.getD j 0).toNat : Nat) : Int))
        rw [Int.toNat_of_nonneg h1.1]
    · have h1 := hr j
      show (zs.getD j 0).toNat < 256
      omega
end Go.Proofs.YtoeomlmnejhgpaaDoor

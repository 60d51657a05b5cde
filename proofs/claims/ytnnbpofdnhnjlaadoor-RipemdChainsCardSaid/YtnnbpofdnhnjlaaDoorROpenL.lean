/- A list of lists of bytes among the arguments, opened. -/
import Derived.Test.YtnnbpofdnhnjlaaDoorROpen
namespace Go.Proofs.YtnnbpofdnhnjlaaDoor
open Go.ChangeShapes Go.WideShapes Go.ChangeAt Go.RowKit

/-- Lists of bytes among the arguments of a call: where each lies, and what it holds. -/
structure ArgL (W : World) (a : Option Addr) (n : Nat) (U : Nat → Value) (N : Nat → Nat) (F : Nat → Nat → Nat) : Prop where
  at_ : ∀ i, i < n → ∃ b o, a = some ⟨b, o, none⟩ ∧ b < W.heap.size ∧ W.cell? ⟨b, o + i, none⟩ = some (U i)
  arg : ∀ i, i < n → ArgB W (U i) (N i) (F i)
  lt : ∀ i j, F i j < 256
theorem bytes_of_trod {H : Type} {enc : TypeId × Value → H} {W : World} {b2 : Nat} {hd : Bool} {fuel : Nat} {v : Value} {x : DataW H × List MemPlace}
    (hf : DataW.trod enc Tryd.prog W b2 (fun _ => true) hd fuel 22 [v] = some x) : ∃ (n : Nat) (f : Nat → Nat), ArgB W v n f ∧ ∀ j, f j < 256 := by
  rcases open_ints Tryd.underlying22 Tryd.underlying5 cellsU8 hf with ⟨hcs, -⟩ | ⟨a, len, cap, zs, hcs, -, hl, hm, hz, hx, hcell, hwz⟩
  · simp at hcs
    subst hcs
    exact ⟨0, fun _ => 0, ⟨none, 0, rfl, Nat.le_refl _, fun _ => rfl, .inl rfl⟩, fun j => (by show (0 : Nat) < 256; omega)⟩
  · simp at hcs
    subst hcs
    simp only [if_true] at hz
    have hr := fun j => range_u8' hwz j
    refine ⟨len, fun j => (zs.getD j 0).toNat, ⟨some a, cap, rfl, hl, (fun h => by cases h), ?_⟩, fun j => ?_⟩
    · rcases Nat.eq_zero_or_pos len with h0 | h0
      · exact .inl h0
      · obtain ⟨ab, ao, spot⟩ := a
        have hspot : spot = none := by simpa [Addr.add] using World.cell?_spot (hcell 0 (by omega))
        subst hspot
        refine .inr ⟨ab, ao, rfl, by simpa [Addr.add] using World.block_lt_of_cell? W _ (hcell 0 (by omega)), fun j hj => ?_⟩
        have hc := hcell j (by omega)
        rw [Addr.add_lit] at hc
        rw [hc]
        have h1 := hr j
        show _ = some (Value.int .u8 (((zs.getD j 0).toNat : Nat) : Int))
        rw [Int.toNat_of_nonneg h1.1]
    · have h1 := hr j
      show (zs.getD j 0).toNat < 256
      omega
theorem cellsLB : Tryd.prog.cellsOf 22 = 1 := by kernel_rfl
set_option maxRecDepth 100000 in
/-- LISTS OF BYTES AMONG THE ARGUMENTS. -/
theorem open_lists {H : Type} {enc : TypeId × Value → H} {W : World} {base b2 : Nat} {hd : Bool} {v : Value} {d : DataW H} {ps : List MemPlace}
    (hv : Value.okWide Tryd.prog W .any base 51 v) (h : DataW.Trod enc Tryd.prog W b2 (fun _ => true) hd 51 v d ps) :
    ∃ (n : Nat), ∃ a cap U N F, v = .slice a n cap ∧ n ≤ cap ∧ ArgL W a n U N F := by
  obtain ⟨a0, len, cap, rfl⟩ := okWide_slice Tryd.underlying51 hv
  obtain ⟨fuel, hf⟩ := h
  rcases DataW.trod_slice Tryd.underlying51 hf with ⟨hcs, -⟩ | ⟨a, len', cap', elems, rest, m, -, hcs, -, hb, hl, hm, hlen, hel, -, -⟩
  · simp [Value.cells] at hcs
    obtain ⟨rfl, rfl, rfl⟩ := hcs
    exact ⟨0, none, 0, fun _ => undef, fun _ => 0, fun _ _ => 0, rfl, Nat.le_refl _, ⟨fun i hi => by omega, fun i hi => by omega, fun _ _ => by omega⟩⟩
  · simp [Value.cells] at hcs
    obtain ⟨rfl, rfl, rfl⟩ := hcs
    obtain ⟨ab, ao, spot⟩ := a
    have each : ∀ i, i < len → ∃ x : Value × Nat × (Nat → Nat), W.cell? ((⟨ab, ao, spot⟩ : Addr).add i) = some x.1 ∧ ArgB W x.1 x.2.1 x.2.2 ∧ ∀ j, x.2.2 j < 256 := by
      intro i hi
      have h1 := hel i hi
      rw [List.getElem?_eq_getElem (by omega), cellsLB, Nat.mul_one, Option.bind_eq_some_iff] at h1
      obtain ⟨cs', hc, ht⟩ := h1
      have h2 := World.cells?_some hc
      have h3 := h2.2.2 0 (by omega)
      obtain ⟨u, hu⟩ : ∃ u, cs' = [u] := by
        have hl1 : cs'.length = 1 := by simpa using h2.2.1
        match cs', hl1 with
        | [u], _ => exact ⟨u, rfl⟩
      subst hu
      obtain ⟨k, f, h4, h5⟩ := bytes_of_trod ht
      refine ⟨(u, k, f), ?_, h4, h5⟩
      simpa [Addr.add] using h3
    refine ⟨len, some ⟨ab, ao, spot⟩, cap, fun i => if hi : i < len then (Classical.choose (each i hi)).1 else undef, fun i => if hi : i < len then (Classical.choose (each i hi)).2.1 else 0, fun i => if hi : i < len then (Classical.choose (each i hi)).2.2 else fun _ => 0, rfl, hl, ⟨fun i hi => ?_, fun i hi => ?_, fun i j => ?_⟩⟩
    · have h0 := (Classical.choose_spec (each 0 (by omega))).1
      have h1 := (Classical.choose_spec (each i hi)).1
      have hspot : spot = none := by simpa [Addr.add] using World.cell?_spot h0
      have hblk : ab < W.heap.size := by simpa [Addr.add] using World.block_lt_of_cell? W _ h0
      have hs : some (⟨ab, ao, spot⟩ : Addr) = some ⟨ab, ao, none⟩ := by rw [hspot]
      refine ⟨ab, ao, hs, hblk, ?_⟩
      obtain ⟨y, hy⟩ : ∃ y, Classical.choose (each i hi) = y := ⟨_, rfl⟩
      rw [hy] at h1
      simp only [hi, dif_pos, hy]
      rw [← h1]
      congr 1
      unfold Addr.add
      split
      · simp [hspot]; omega
      · rfl
    · simp only [hi, dif_pos]
      exact (Classical.choose_spec (each i hi)).2.1
    · by_cases hi : i < len
      · simp only [hi, dif_pos]
        exact (Classical.choose_spec (each i hi)).2.2 j
      · simp only [hi, dif_neg, not_false_iff]
        omega
end Go.Proofs.YtnnbpofdnhnjlaaDoor

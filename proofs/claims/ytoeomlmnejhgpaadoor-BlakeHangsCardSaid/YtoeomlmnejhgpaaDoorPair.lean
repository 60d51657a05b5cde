/- Two results laid into fresh blocks in one statement, whatever the order: where they lie, and that what is laid stays (for region_tie2). No program is named here. -/
import Derived.Test.YtoeomlmnejhgpaaDoorTie1
namespace Go.Proofs.YtoeomlmnejhgpaaDoor
open Go.RowKit

/-- Where the two results lie (their addresses in the slots p and q): apart, and behind what was there. -/
structure AQ (p q H : Nat) (s : Nat → Value) (wx : World) : Prop where
  ap : ∀ D, s p = .pointer (some ⟨D, 0, none⟩) → H ≤ D ∧ D < wx.heap.size
  aq : ∀ D, s q = .pointer (some ⟨D, 0, none⟩) → H ≤ D ∧ D < wx.heap.size
  ne : ∀ D E, s p = .pointer (some ⟨D, 0, none⟩) → s q = .pointer (some ⟨E, 0, none⟩) → D ≠ E
theorem AQ.start {p q H : Nat} {s : Nat → Value} {wx : World} (h7 : s p = undef) (h8 : s q = undef) : AQ p q H s wx :=
  ⟨fun D hD => (by rw [h7] at hD; unfold undef at hD; cases hD), fun D hD => (by rw [h8] at hD; unfold undef at hD; cases hD), fun D E hD => (by rw [h7] at hD; unfold undef at hD; cases hD)⟩
theorem AQ.put {p q H : Nat} {s s' : Nat → Value} {wx w' : World} (h : AQ p q H s wx) (e7 : s' p = s p) (e8 : s' q = s q) (hl : wx.heap.size ≤ w'.heap.size) : AQ p q H s' w' :=
  ⟨fun D hD => ⟨(h.ap D (e7 ▸ hD)).1, Nat.lt_of_lt_of_le (h.ap D (e7 ▸ hD)).2 hl⟩, fun D hD => ⟨(h.aq D (e8 ▸ hD)).1, Nat.lt_of_lt_of_le (h.aq D (e8 ▸ hD)).2 hl⟩, fun D E h1 h2 => h.ne D E (e7 ▸ h1) (e8 ▸ h2)⟩
theorem AQ.newp {p q H : Nat} {s s' : Nat → Value} {wx w' : World} (h : AQ p q H s wx) (e7 : s' p = .pointer (some ⟨wx.heap.size, 0, none⟩)) (e8 : s' q = s q) (hH : H ≤ wx.heap.size) (hl : wx.heap.size < w'.heap.size) : AQ p q H s' w' :=
  ⟨fun D hD => by rw [e7] at hD; cases hD; exact ⟨hH, hl⟩, fun D hD => ⟨(h.aq D (e8 ▸ hD)).1, Nat.lt_trans (h.aq D (e8 ▸ hD)).2 hl⟩, fun D E h1 h2 => by rw [e7] at h1; cases h1; have := (h.aq E (e8 ▸ h2)).2; omega⟩
theorem AQ.newq {p q H : Nat} {s s' : Nat → Value} {wx w' : World} (h : AQ p q H s wx) (e8 : s' q = .pointer (some ⟨wx.heap.size, 0, none⟩)) (e7 : s' p = s p) (hH : H ≤ wx.heap.size) (hl : wx.heap.size < w'.heap.size) : AQ p q H s' w' :=
  ⟨fun D hD => ⟨(h.ap D (e7 ▸ hD)).1, Nat.lt_trans (h.ap D (e7 ▸ hD)).2 hl⟩, fun D hD => by rw [e8] at hD; cases hD; exact ⟨hH, hl⟩, fun D E h1 h2 => by rw [e8] at h2; cases h2; have := (h.ap D (e7 ▸ h1)).2; omega⟩
/-- What a step does to what was there: nothing, or one of the results is laid. -/
def RM2 (p q : Nat) (ca cb : Array Value) (s : Nat → Value) (wa wb : World) : Prop := (wa.heap.size ≤ wb.heap.size ∧ ∀ (k : Nat), k < wa.heap.size → wb.heap[k]? = wa.heap[k]?) ∨ ∃ (D : Nat) (cs : Array Value), (s p = .pointer (some ⟨D, 0, none⟩) ∧ cs = ca ∨ s q = .pointer (some ⟨D, 0, none⟩) ∧ cs = cb) ∧ wb = wa.setRow D cs
theorem RM2.of {p q : Nat} {ca cb : Array Value} {s : Nat → Value} {wa wb : World} (h : Below wa.heap.size wa wb) : RM2 p q ca cb s wa wb := .inl ⟨h.size, fun k hk => h.block k hk⟩
theorem RM2.same {p q : Nat} {ca cb : Array Value} {s : Nat → Value} (wa : World) : RM2 p q ca cb s wa wa := .inl ⟨Nat.le_refl _, fun _ _ => rfl⟩
theorem RM2.shape {p q D n : Nat} {T : TypeId} {ca cb : Array Value} {s : Nat → Value} {wa wb : World} (hR : RM2 p q ca cb s wa wb) (ha : ca.size = n) (hb : cb.size = n) (h : ∃ cs : Array Value, wa.heap[D]? = some (.cells cs T (0, 0)) ∧ cs.size = n) : ∃ cs : Array Value, wb.heap[D]? = some (.cells cs T (0, 0)) ∧ cs.size = n := by
  obtain ⟨cs, e, hs⟩ := h
  rcases hR with ⟨-, h⟩ | ⟨E, c1, h1, rfl⟩
  · exact ⟨cs, (h D (Array.getElem?_eq_some_iff.1 e).1).trans e, hs⟩
  · by_cases q : D = E
    · subst q
      exact ⟨c1, setRow_heap _ _ _ _ _ _ e, by rcases h1 with ⟨-, rfl⟩ | ⟨-, rfl⟩ <;> assumption⟩
    · exact ⟨cs, (setRow_other _ _ _ _ q).trans e, hs⟩
theorem RM2.keepp {p q D H : Nat} {T : TypeId} {ca cb : Array Value} {s : Nat → Value} {wa wb : World} (hA : AQ p q H s wa) (hR : RM2 p q ca cb s wa wb) (hs : s p = .pointer (some ⟨D, 0, none⟩)) (e : wa.heap[D]? = some (.cells ca T (0, 0))) : wb.heap[D]? = some (.cells ca T (0, 0)) := by
  rcases hR with ⟨-, h⟩ | ⟨E, c1, h1, rfl⟩
  · exact (h D (Array.getElem?_eq_some_iff.1 e).1).trans e
  · rcases h1 with ⟨h1, rfl⟩ | ⟨h1, rfl⟩
    · rw [hs] at h1; cases h1; exact setRow_heap _ _ _ _ _ _ e
    · exact (setRow_other _ _ _ _ (hA.ne D E hs h1)).trans e
theorem RM2.keepq {p q D H : Nat} {T : TypeId} {ca cb : Array Value} {s : Nat → Value} {wa wb : World} (hA : AQ p q H s wa) (hR : RM2 p q ca cb s wa wb) (hs : s q = .pointer (some ⟨D, 0, none⟩)) (e : wa.heap[D]? = some (.cells cb T (0, 0))) : wb.heap[D]? = some (.cells cb T (0, 0)) := by
  rcases hR with ⟨-, h⟩ | ⟨E, c1, h1, rfl⟩
  · exact (h D (Array.getElem?_eq_some_iff.1 e).1).trans e
  · rcases h1 with ⟨h1, rfl⟩ | ⟨h1, rfl⟩
    · exact (setRow_other _ _ _ _ (Ne.symm (hA.ne E D h1 hs))).trans e
    · rw [hs] at h1; cases h1; exact setRow_heap _ _ _ _ _ _ e
end Go.Proofs.YtoeomlmnejhgpaaDoor

/- Words that lie in blocks: they read as they did behind every call that makes memory; a whole word loaded. -/
import Derived.Test.YthfadinocadhaaaDoorProg
import Derived.Test.YthfadinocadhaaaDoorNum
import Derived.Test.YthfadinocadhaaaDoorQ
import Derived.WalkKit
import Derived.WalkSpells
import Derived.WalkLawsBesides
import Derived.LoopN
import Derived.Handy
import Derived.Outline
import Derived.RegionTactic
import Derived.BigRegion
import Derived.Lib.Hide
namespace Go.Proofs.YthfadinocadhaaaDoor
open Go.RowKit

/-- Block B is a word with these parts. -/
def Holds4 (B : Nat) (v0 v1 v2 v3 : Value) (wx : World) : Prop := wx.cell? ⟨B, 0, none⟩ = some v0 ∧ wx.cell? ⟨B, 1, none⟩ = some v1 ∧ wx.cell? ⟨B, 2, none⟩ = some v2 ∧ wx.cell? ⟨B, 3, none⟩ = some v3
theorem Holds4.below {B : Nat} {v0 v1 v2 v3 : Value} {wx w' : World} (h : Holds4 B v0 v1 v2 v3 wx) (hb : Below wx.heap.size wx w') (hB : B < wx.heap.size) : Holds4 B v0 v1 v2 v3 w' :=
  ⟨(hb.cell hB).trans h.1, (hb.cell hB).trans h.2.1, (hb.cell hB).trans h.2.2.1, (hb.cell hB).trans h.2.2.2⟩

/-- The worlds of a law's last statement: nothing elder has turned; some blocks are the words that they were. -/
def ClG (w : World) (top : Nat) (Cs : World → Prop) (wx : World) : Prop := Below w.heap.size w wx ∧ top < wx.heap.size ∧ Cs wx
theorem ClG.drew {w wx : World} {top : Nat} {Cs : World → Prop} (hd : ∀ wx, Cs wx → Cs wx.drew) (h : ClG w top Cs wx) : ClG w top Cs wx.drew := ⟨h.1.drew, h.2.1, hd _ h.2.2⟩
theorem ClG.below {w wx w' : World} {top : Nat} {Cs : World → Prop} (hk : ∀ wx w', top < wx.heap.size → Below wx.heap.size wx w' → Cs wx → Cs w') (h : ClG w top Cs wx) (hb : Below wx.heap.size wx w') : ClG w top Cs w' :=
  ⟨h.1.trans (hb.mono h.1.size), Nat.lt_of_lt_of_le h.2.1 hb.size, hk _ _ h.2.1 hb h.2.2⟩

set_option maxHeartbeats 400000 in
/-- A whole word loaded. -/
theorem load4 (B : Nat) {v0 v1 v2 v3 : Value} {w : World} (h : Holds4 B v0 v1 v2 v3 w) : (Instr.loadAt 24 (.pointer (some ⟨B, 0, none⟩))).run Tryd.prog w = .ok (.agg #[v0, v1, v2, v3]) w := by
  obtain ⟨c0, c1, c2, c3⟩ := h
  go_simp
end Go.Proofs.YthfadinocadhaaaDoor

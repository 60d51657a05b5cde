/- What the sum, the difference and their parts come to, called with any words in any world: walks of word.Add, word.addCarry, word.Sub, word.Of, word.Not. -/
import Derived.Test.YthfadinocadhaaaDoorProg
import Derived.Test.YthfadinocadhaaaDoorNum
import Derived.Test.YthfadinocadhaaaDoorAdd
import Derived.WalkKit
import Derived.WalkSpells
import Derived.WalkLawsBesides
import Derived.LoopN
import Derived.Handy
import Derived.Outline
import Derived.RegionTactic
import Derived.BigRegion
namespace Go.Proofs.YthfadinocadhaaaDoor
open Go.RowKit

set_option maxHeartbeats 400000 in
theorem add_any (x y : Nat) (w : World) :
    Calls Tryd.prog 13 #[wv x, wv y] w fun e w' => e = .returned (wv (x + y)) ∧ Below w.heap.size w w' := by
  obtain ⟨a0, a1, a2, a3, u0, u1, u2, u3, ea, na⟩ := wv_parts x
  obtain ⟨b0, b1, b2, b3, v0, v1, v2, v3, eb, nb⟩ := wv_parts y
  obtain ⟨s0, s1, s2, s3, l0, l1, l2, l3, es, ns⟩ := wv_parts (x + y)
  have hc := fun w => addCarry_any x y w
  rw [ea, eb, es] at hc
  rw [ea, eb, es]
  clear ea eb es
  generalize ((x % 115792089237316195423570985008687907853269984665640564039457584007913129639936 + y % 115792089237316195423570985008687907853269984665640564039457584007913129639936) / 115792089237316195423570985008687907853269984665640564039457584007913129639936) = c at hc
  clear na nb ns
  go_enter Tryd.func13, Tryd.ntmps13
  go_wp2_with fail
  refine (hc _).mono ?_
  rintro e w' ⟨rfl, hb⟩
  obtain ⟨⟨q0, q1, q2, q3⟩, ⟨f0, f1, f2, f3⟩, hz, hb'⟩ := after4 (w := w) (B := w.heap.size) (w.heap.size + 1 + 1) hb (by go_grown) (by simp; omega) (by simp) (by go_cell) (by go_cell) (by go_cell) (by go_cell) (by go_cell) (by go_cell) (by go_cell) (by go_cell)
  clear hb
  go_wp2
  refine bodyPost_ret (by simp [results, Tryd.results13, go_sem, hz, q0, q1, q2, q3]; try rfl) rfl ⟨rfl, ?_⟩
  go_grown
end Go.Proofs.YthfadinocadhaaaDoor

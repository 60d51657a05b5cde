/- What the sum, the difference and their parts come to, called with any words in any world: walks of word.Add, word.addCarry, word.Sub, word.Of, word.Not. -/
import Derived.Test.YthfadinocadhaaaDoorProg
import Derived.Test.YthfadinocadhaaaDoorNum
import Derived.WalkKit
import Derived.WalkSpells
import Derived.WalkLawsBesides
import Derived.LoopN
import Derived.Handy
import Derived.Outline
import Derived.RegionTactic
import Derived.BigRegion
namespace Go.Proofs.YthfadinocadhaaaDoor
open Go.RowKit

/-- The model's entry for math/bits.Sub64. -/
def sub64E : Array Value → Sem Value := fun args => do
  let (x, y, b) ← Extern.MathBitsCarry.three "Sub64" args
  pure (Extern.MathBitsCarry.pair ((x + Extern.MathBitsCarry.m64 - y - b) % Extern.MathBitsCarry.m64) (if x < y + b then 1 else 0))
theorem run_sub64E (x y b : Nat) (hb : b ≤ 1) (w : World) :
    (sub64E #[.int .u64 x, .int .u64 y, .int .u64 b]).run Tryd.prog w =
      .ok (.tuple #[.int .u64 (((x + 18446744073709551616 - y - b) % 18446744073709551616 : Nat) : Int), .int .u64 ((if x < y + b then 1 else 0 : Nat) : Int)]) w := by
  have : b = 0 ∨ b = 1 := by omega
  rcases this with rfl | rfl <;> rfl

theorem add64_run (x y c : Nat) (hc : c ≤ 1) (w : World) :
    (callFunc 90 #[.int .u64 x, .int .u64 y, .int .u64 c]).run Tryd.prog w =
      .ok (.value (.tuple #[.int .u64 (((x + y + c) % 18446744073709551616 : Nat) : Int), .int .u64 (((x + y + c) / 18446744073709551616 : Nat) : Int)])) w := by
  rw [run_callFunc_extern Tryd.func90 (by kernel_rfl) (by kernel_rfl) (by kernel_rfl) (e := add64Entry) (by kernel_rfl), run_add64 x y c (by omega) (by omega) (by omega) (by omega)]
  simp only [Result.andThen]
  congr 5 <;> omega
theorem sub64_run (x y b : Nat) (hb : b ≤ 1) (w : World) :
    (callFunc 64 #[.int .u64 x, .int .u64 y, .int .u64 b]).run Tryd.prog w =
      .ok (.value (.tuple #[.int .u64 (((x + 18446744073709551616 - y - b) % 18446744073709551616 : Nat) : Int), .int .u64 ((if x < y + b then 1 else 0 : Nat) : Int)])) w := by
  rw [run_callFunc_extern Tryd.func64 (by kernel_rfl) (by kernel_rfl) (by kernel_rfl) (e := sub64E) (by kernel_rfl), run_sub64E x y b hb]
  rfl

theorem add64_ex (x y c : Nat) (hx : x < 18446744073709551616) (hy : y < 18446744073709551616) (hc : c ≤ 1) :
    ∃ s d : Nat, d ≤ 1 ∧ s < 18446744073709551616 ∧ s + 18446744073709551616 * d = x + y + c ∧
     ∀ w, (callFunc 90 #[.int .u64 x, .int .u64 y, .int .u64 c]).run Tryd.prog w = .ok (.value (.tuple #[.int .u64 s, .int .u64 d])) w :=
  ⟨_, _, by omega, by omega, by omega, fun w => add64_run x y c hc w⟩
theorem add64_ex0 (x y : Nat) (hx : x < 18446744073709551616) (hy : y < 18446744073709551616) :
    ∃ s d : Nat, d ≤ 1 ∧ s < 18446744073709551616 ∧ s + 18446744073709551616 * d = x + y ∧
     ∀ w, (callFunc 90 #[.int .u64 x, .int .u64 y, .int .u64 0]).run Tryd.prog w = .ok (.value (.tuple #[.int .u64 s, .int .u64 d])) w :=
  add64_ex x y 0 hx hy (by omega)
/-- What is left, and what is owed: s + y + b = x + 2^64 d. -/
theorem sub64_ex (x y b : Nat) (hx : x < 18446744073709551616) (hy : y < 18446744073709551616) (hb : b ≤ 1) :
    ∃ s d : Nat, d ≤ 1 ∧ s < 18446744073709551616 ∧ s + y + b = x + 18446744073709551616 * d ∧
     ∀ w, (callFunc 64 #[.int .u64 x, .int .u64 y, .int .u64 b]).run Tryd.prog w = .ok (.value (.tuple #[.int .u64 s, .int .u64 d])) w := by
  refine ⟨_, _, ?_, ?_, ?_, fun w => sub64_run x y b hb w⟩
  · split <;> omega
  · omega
  · split <;> omega
theorem sub64_ex0 (x y : Nat) (hx : x < 18446744073709551616) (hy : y < 18446744073709551616) :
    ∃ s d : Nat, d ≤ 1 ∧ s < 18446744073709551616 ∧ s + y = x + 18446744073709551616 * d ∧
     ∀ w, (callFunc 64 #[.int .u64 x, .int .u64 y, .int .u64 0]).run Tryd.prog w = .ok (.value (.tuple #[.int .u64 s, .int .u64 d])) w :=
  sub64_ex x y 0 hx hy (by omega)

set_option maxRecDepth 100000 in
set_option maxHeartbeats 1000000 in
theorem addCarry_walk (a0 a1 a2 a3 b0 b1 b2 b3 s0 c1 s1 c2 s2 c3 s3 c4 : Nat) (w : World)
   (h0 : ∀ w, (callFunc 90 #[.int .u64 a0, .int .u64 b0, .int .u64 0]).run Tryd.prog w = .ok (.value (.tuple #[.int .u64 s0, .int .u64 c1])) w)
   (h1 : ∀ w, (callFunc 90 #[.int .u64 a1, .int .u64 b1, .int .u64 c1]).run Tryd.prog w = .ok (.value (.tuple #[.int .u64 s1, .int .u64 c2])) w)
   (h2 : ∀ w, (callFunc 90 #[.int .u64 a2, .int .u64 b2, .int .u64 c2]).run Tryd.prog w = .ok (.value (.tuple #[.int .u64 s2, .int .u64 c3])) w)
   (h3 : ∀ w, (callFunc 90 #[.int .u64 a3, .int .u64 b3, .int .u64 c3]).run Tryd.prog w = .ok (.value (.tuple #[.int .u64 s3, .int .u64 c4])) w) :
    Calls Tryd.prog 60 #[.agg #[.int .u64 a0, .int .u64 a1, .int .u64 a2, .int .u64 a3], .agg #[.int .u64 b0, .int .u64 b1, .int .u64 b2, .int .u64 b3]] w fun e w' =>
      e = .returned (.tuple #[.agg #[.int .u64 s0, .int .u64 s1, .int .u64 s2, .int .u64 s3], .int .u64 c4]) ∧ Below w.heap.size w w' := by
  go_enter Tryd.func60, Tryd.ntmps60
  go_wp2
  refine wp_loop_rounds 5 ?_
  iterate 4 (rw [rounds_succ]; go_wp2; go_region; go_wp2)
  rw [rounds_succ]
  go_wp2
  go_returns
  exact ⟨rfl, by go_grown⟩

theorem addCarry_any (x y : Nat) (w : World) :
    Calls Tryd.prog 60 #[wv x, wv y] w fun e w' =>
      e = .returned (.tuple #[wv (x + y), .int .u64 (((x % 115792089237316195423570985008687907853269984665640564039457584007913129639936 + y % 115792089237316195423570985008687907853269984665640564039457584007913129639936) / 115792089237316195423570985008687907853269984665640564039457584007913129639936 : Nat) : Int)]) ∧ Below w.heap.size w w' := by
  obtain ⟨a0, a1, a2, a3, u0, u1, u2, u3, ea, na⟩ := wv_parts x
  obtain ⟨b0, b1, b2, b3, v0, v1, v2, v3, eb, nb⟩ := wv_parts y
  obtain ⟨s0, c1, k1, l0, e0, h0⟩ := add64_ex0 a0 b0 u0 v0
  obtain ⟨s1, c2, k2, l1, e1, h1⟩ := add64_ex a1 b1 c1 u1 v1 k1
  obtain ⟨s2, c3, k3, l2, e2, h2⟩ := add64_ex a2 b2 c2 u2 v2 k2
  obtain ⟨s3, c4, k4, l3, e3, h3⟩ := add64_ex a3 b3 c3 u3 v3 k3
  have hs : n4 s0 s1 s2 s3 + 115792089237316195423570985008687907853269984665640564039457584007913129639936 * c4 = x % 115792089237316195423570985008687907853269984665640564039457584007913129639936 + y % 115792089237316195423570985008687907853269984665640564039457584007913129639936 := by rw [← na, ← nb]; unfold n4; omega
  have hl := n4_lt l0 l1 l2 l3
  rw [ea, eb]
  refine (addCarry_walk a0 a1 a2 a3 b0 b1 b2 b3 s0 c1 s1 c2 s2 c3 s3 c4 w h0 h1 h2 h3).mono fun e w' ⟨he, hb⟩ => ⟨?_, hb⟩
  rw [he, ← hs, ← wv_n4 l0 l1 l2 l3]
  rw [wv_congr (x := n4 s0 s1 s2 s3) (y := x + y) (by omega)]
  rw [show (n4 s0 s1 s2 s3 + 115792089237316195423570985008687907853269984665640564039457584007913129639936 * c4) / 115792089237316195423570985008687907853269984665640564039457584007913129639936 = c4 by omega]

set_option maxRecDepth 100000 in
set_option maxHeartbeats 1000000 in
theorem sub_walk (a0 a1 a2 a3 b0 b1 b2 b3 s0 c1 s1 c2 s2 c3 s3 c4 : Nat) (w : World)
   (h0 : ∀ w, (callFunc 64 #[.int .u64 a0, .int .u64 b0, .int .u64 0]).run Tryd.prog w = .ok (.value (.tuple #[.int .u64 s0, .int .u64 c1])) w)
   (h1 : ∀ w, (callFunc 64 #[.int .u64 a1, .int .u64 b1, .int .u64 c1]).run Tryd.prog w = .ok (.value (.tuple #[.int .u64 s1, .int .u64 c2])) w)
   (h2 : ∀ w, (callFunc 64 #[.int .u64 a2, .int .u64 b2, .int .u64 c2]).run Tryd.prog w = .ok (.value (.tuple #[.int .u64 s2, .int .u64 c3])) w)
   (h3 : ∀ w, (callFunc 64 #[.int .u64 a3, .int .u64 b3, .int .u64 c3]).run Tryd.prog w = .ok (.value (.tuple #[.int .u64 s3, .int .u64 c4])) w) :
    Calls Tryd.prog 15 #[.agg #[.int .u64 a0, .int .u64 a1, .int .u64 a2, .int .u64 a3], .agg #[.int .u64 b0, .int .u64 b1, .int .u64 b2, .int .u64 b3]] w fun e w' =>
      e = .returned (.agg #[.int .u64 s0, .int .u64 s1, .int .u64 s2, .int .u64 s3]) ∧ Below w.heap.size w w' := by
  go_enter Tryd.func15, Tryd.ntmps15
  go_wp2
  refine wp_loop_rounds 5 ?_
  iterate 4 (rw [rounds_succ]; go_wp2; go_region; go_wp2)
  rw [rounds_succ]
  go_wp2
  go_returns
  exact ⟨rfl, by go_grown⟩

theorem sub_any (x y : Nat) (w : World) :
    Calls Tryd.prog 15 #[wv x, wv y] w fun e w' =>
      e = .returned (wv (x + (115792089237316195423570985008687907853269984665640564039457584007913129639936 - y % 115792089237316195423570985008687907853269984665640564039457584007913129639936))) ∧ Below w.heap.size w w' := by
  obtain ⟨a0, a1, a2, a3, u0, u1, u2, u3, ea, na⟩ := wv_parts x
  obtain ⟨b0, b1, b2, b3, v0, v1, v2, v3, eb, nb⟩ := wv_parts y
  obtain ⟨s0, c1, k1, l0, e0, h0⟩ := sub64_ex0 a0 b0 u0 v0
  obtain ⟨s1, c2, k2, l1, e1, h1⟩ := sub64_ex a1 b1 c1 u1 v1 k1
  obtain ⟨s2, c3, k3, l2, e2, h2⟩ := sub64_ex a2 b2 c2 u2 v2 k2
  obtain ⟨s3, c4, k4, l3, e3, h3⟩ := sub64_ex a3 b3 c3 u3 v3 k3
  have hs : n4 s0 s1 s2 s3 + y % 115792089237316195423570985008687907853269984665640564039457584007913129639936 = x % 115792089237316195423570985008687907853269984665640564039457584007913129639936 + 115792089237316195423570985008687907853269984665640564039457584007913129639936 * c4 := by rw [← na, ← nb]; unfold n4; omega
  rw [ea, eb]
  refine (sub_walk a0 a1 a2 a3 b0 b1 b2 b3 s0 c1 s1 c2 s2 c3 s3 c4 w h0 h1 h2 h3).mono fun e w' ⟨he, hb⟩ => ⟨?_, hb⟩
  rw [he, ← wv_n4 l0 l1 l2 l3]
  rw [wv_congr (x := n4 s0 s1 s2 s3) (y := x + (115792089237316195423570985008687907853269984665640564039457584007913129639936 - y % 115792089237316195423570985008687907853269984665640564039457584007913129639936)) (by omega)]

end Go.Proofs.YthfadinocadhaaaDoor

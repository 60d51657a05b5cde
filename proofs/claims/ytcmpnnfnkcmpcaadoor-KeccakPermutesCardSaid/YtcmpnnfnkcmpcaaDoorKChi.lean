/- The permutation's third step is one-to-one; so are the moves, and the constant laid over the first lane. -/
import Derived.Test.YtcmpnnfnkcmpcaaDoorKTheta
namespace Go.Proofs.YtcmpnnfnkcmpcaaDoor
open Go.RowKit

theorem kandnot (a b : Int) : ∃ X : Nat, X < 18446744073709551616 ∧ bits .andNot .u64 a b = (X : Int) ∧ ∀ z, z < 64 → X.testBit z = (bi a z && !bi b z) := by
  have e : bits .andNot .u64 a b = IntKind.u64.wrap (((BitVec.ofInt 64 a &&& ~~~ BitVec.ofInt 64 b).toNat : Nat) : Int) := by
    unfold bits
    simp
    rfl
  have hb : (BitVec.ofInt 64 a &&& ~~~ BitVec.ofInt 64 b).toNat < 18446744073709551616 := (BitVec.ofInt 64 a &&& ~~~ BitVec.ofInt 64 b).isLt
  refine ⟨(BitVec.ofInt 64 a &&& ~~~ BitVec.ofInt 64 b).toNat, hb, ?_, ?_⟩
  · rw [e, IntKind.wrap_u64]; omega
  · intro z hz
    have ha : ∀ c : Int, (BitVec.ofInt 64 c).getLsbD z = bi c z := fun c => by
      unfold bi BitVec.getLsbD
      rw [BitVec.toNat_ofInt]
      rfl
    show (BitVec.ofInt 64 a &&& ~~~ BitVec.ofInt 64 b).getLsbD z = _
    rw [BitVec.getLsbD_and, BitVec.getLsbD_not, ha, ha]
    simp [hz]
theorem bi_andnot (a b : Int) (z : Nat) (hz : z < 64) : bi (bits .andNot .u64 a b) z = (bi a z && !bi b z) := by
  obtain ⟨X, hX, e, h⟩ := kandnot a b
  rw [e, bi_nat _ hX]
  exact h z hz
/-- The state behind the third step. -/
def kch (v : Nat → Int) (i : Nat) : Int := bits .xor .u64 (v i) (bits .andNot .u64 (v ((i % 5 + 2) % 5 + 5 * (i / 5))) (v ((i % 5 + 1) % 5 + 5 * (i / 5))))
theorem bi_kch (v : Nat → Int) (x y z : Nat) (hx : x < 5) (hz : z < 64) : bi (kch v (x + 5 * y)) z = (bi (v (x + 5 * y)) z ^^ (!bi (v ((x + 1) % 5 + 5 * y)) z && bi (v ((x + 2) % 5 + 5 * y)) z)) := by
  unfold kch
  rw [show (x + 5 * y) % 5 = x by omega, show (x + 5 * y) / 5 = y by omega, bi_xor, bi_andnot _ _ _ hz, Bool.and_comm]
/-- THE THIRD STEP IS ONE-TO-ONE. -/
theorem kch_inj {v u : Nat → Int} (hv : ∀ i, i < 25 → 0 ≤ v i ∧ v i < 18446744073709551616) (hu : ∀ i, i < 25 → 0 ≤ u i ∧ u i < 18446744073709551616) (h : ∀ i, i < 25 → kch v i = kch u i) : ∀ i, i < 25 → v i = u i := by
  have K : ∀ y z, y < 5 → z < 64 → ∀ x, x < 5 → bi (v (x + 5 * y)) z = bi (u (x + 5 * y)) z := by
    intro y z hy hz
    have e : ∀ x, x < 5 → (bi (v (x + 5 * y)) z ^^ (!bi (v ((x + 1) % 5 + 5 * y)) z && bi (v ((x + 2) % 5 + 5 * y)) z)) = (bi (u (x + 5 * y)) z ^^ (!bi (u ((x + 1) % 5 + 5 * y)) z && bi (u ((x + 2) % 5 + 5 * y)) z)) := fun x hx => by
      rw [← bi_kch v x y z hx hz, ← bi_kch u x y z hx hz, h _ (by omega)]
    have q := chi5 (bi (v (0 + 5 * y)) z) (bi (v (1 + 5 * y)) z) (bi (v (2 + 5 * y)) z) (bi (v (3 + 5 * y)) z) (bi (v (4 + 5 * y)) z) (bi (u (0 + 5 * y)) z) (bi (u (1 + 5 * y)) z) (bi (u (2 + 5 * y)) z) (bi (u (3 + 5 * y)) z) (bi (u (4 + 5 * y)) z) (e 0 (by decide)) (e 1 (by decide)) (e 2 (by decide)) (e 3 (by decide)) (e 4 (by decide))
    intro x hx
    have hc : x = 0 ∨ x = 1 ∨ x = 2 ∨ x = 3 ∨ x = 4 := by omega
    rcases hc with rfl | rfl | rfl | rfl | rfl
    · exact q.1
    · exact q.2.1
    · exact q.2.2.1
    · exact q.2.2.2.1
    · exact q.2.2.2.2
  intro i hi
  refine bi_inj (hv i hi) (hu i hi) fun z hz => ?_
  have e := K (i / 5) z (by omega) hz (i % 5) (by omega)
  rwa [show i % 5 + 5 * (i / 5) = i by omega] at e
end Go.Proofs.YtcmpnnfnkcmpcaaDoor

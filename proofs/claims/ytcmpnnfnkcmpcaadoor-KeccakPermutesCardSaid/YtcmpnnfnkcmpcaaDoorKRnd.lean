/- The permutation's moves are one-to-one; and so is a whole round. -/
import Derived.Test.YtcmpnnfnkcmpcaaDoorKChi
namespace Go.Proofs.YtcmpnnfnkcmpcaaDoor
open Go.RowKit

theorem rul_inj (k : Nat) {a b : Int} (ha : 0 ≤ a ∧ a < 18446744073709551616) (hb : 0 ≤ b ∧ b < 18446744073709551616) (h : rul k a = rul k b) : a = b := by
  refine bi_inj ha hb fun z hz => ?_
  obtain ⟨A, rfl⟩ : ∃ A : Nat, a = (A : Int) := ⟨a.toNat, by omega⟩
  obtain ⟨B, rfl⟩ : ∃ B : Nat, b = (B : Int) := ⟨b.toNat, by omega⟩
  have e : bi (rul k A) ((z + k % 64) % 64) = bi (rul k B) ((z + k % 64) % 64) := by rw [h]
  rw [bi_rul k A _ (by omega) (Nat.mod_lt _ (by decide)), bi_rul k B _ (by omega) (Nat.mod_lt _ (by decide)), show ((z + k % 64) % 64 + (64 - k % 64)) % 64 = z by omega] at e
  exact e
/-- From where a lane comes to the place j; how far it is turned up; where the lane at i goes to. -/
def ksrc (j : Nat) : Nat := [0, 6, 12, 18, 24, 3, 9, 10, 16, 22, 1, 7, 13, 19, 20, 4, 5, 11, 17, 23, 2, 8, 14, 15, 21].getD j 0
def ktrn (j : Nat) : Nat := [0, 300, 171, 21, 78, 28, 276, 3, 45, 253, 1, 6, 153, 136, 210, 91, 36, 10, 15, 120, 190, 55, 231, 105, 66].getD j 0
def kdst (i : Nat) : Nat := [0, 10, 20, 5, 15, 16, 1, 11, 21, 6, 7, 17, 2, 12, 22, 23, 8, 18, 3, 13, 14, 24, 9, 19, 4].getD i 0
theorem kdst_all : ∀ i, i < 25 → kdst i < 25 ∧ ksrc (kdst i) = i ∧ (kdst i = 0 → i = 0) := by decide +kernel
/-- The state behind the moves. -/
def kmv (v : Nat → Int) (j : Nat) : Int := if j = 0 then v 0 else rul (ktrn j) (v (ksrc j))
/-- THE MOVES ARE ONE-TO-ONE. -/
theorem kmv_inj {v u : Nat → Int} (hv : ∀ i, i < 25 → 0 ≤ v i ∧ v i < 18446744073709551616) (hu : ∀ i, i < 25 → 0 ≤ u i ∧ u i < 18446744073709551616) (h : ∀ i, i < 25 → kmv v i = kmv u i) : ∀ i, i < 25 → v i = u i := by
  intro i hi
  obtain ⟨h1, h2, h3⟩ := kdst_all i hi
  have e := h (kdst i) h1
  unfold kmv at e
  by_cases h0 : kdst i = 0
  · rw [if_pos h0, if_pos h0] at e
    rw [h3 h0]
    exact e
  · rw [if_neg h0, if_neg h0, h2] at e
    exact rul_inj _ (hv i hi) (hu i hi) e
/-- Bits of two numbers are a number of 64 bits. -/
theorem kxor_rng (a b : Int) : 0 ≤ bits .xor .u64 a b ∧ bits .xor .u64 a b < 18446744073709551616 := by
  obtain ⟨X, hX, e⟩ := kxor_nat a b
  omega
theorem rul_rng (k : Nat) (a : Int) : 0 ≤ rul k a ∧ rul k a < 18446744073709551616 := by
  unfold rul
  rw [kor, IntKind.wrap_u64]
  omega
theorem kth_rng (v : Nat → Int) (i : Nat) (hi : i < 25) : 0 ≤ kth v i ∧ kth v i < 18446744073709551616 := by
  unfold kth
  rw [if_pos hi]
  exact kxor_rng _ _
theorem kmv_rng (v : Nat → Int) (hv : 0 ≤ v 0 ∧ v 0 < 18446744073709551616) (i : Nat) : 0 ≤ kmv v i ∧ kmv v i < 18446744073709551616 := by
  unfold kmv
  by_cases h : i = 0
  · rw [if_pos h]; exact hv
  · rw [if_neg h]; exact rul_rng _ _
theorem kch_rng (v : Nat → Int) (i : Nat) : 0 ≤ kch v i ∧ kch v i < 18446744073709551616 := kxor_rng _ _
/-- A round with the constant c. -/
def krd (c : Int) (v : Nat → Int) (i : Nat) : Int := if i = 0 then bits .xor .u64 (kch (kmv (kth v)) 0) c else kch (kmv (kth v)) i
theorem krd_rng (c : Int) (v : Nat → Int) (i : Nat) : 0 ≤ krd c v i ∧ krd c v i < 18446744073709551616 := by
  unfold krd
  by_cases h : i = 0
  · rw [if_pos h]; exact kxor_rng _ _
  · rw [if_neg h]; exact kch_rng _ _
theorem xor_inj {a b c : Int} (ha : 0 ≤ a ∧ a < 18446744073709551616) (hb : 0 ≤ b ∧ b < 18446744073709551616) (h : bits .xor .u64 a c = bits .xor .u64 b c) : a = b := by
  refine bi_inj ha hb fun z hz => ?_
  have e := congrArg (fun x => bi x z) h
  simp only [bi_xor] at e
  cases h1 : bi a z <;> cases h2 : bi b z <;> cases h3 : bi c z <;> simp [h1, h2, h3] at e ⊢
/-- A ROUND IS ONE-TO-ONE. -/
theorem krd_inj (c : Int) {v u : Nat → Int} (hv : ∀ i, i < 25 → 0 ≤ v i ∧ v i < 18446744073709551616) (hu : ∀ i, i < 25 → 0 ≤ u i ∧ u i < 18446744073709551616) (h : ∀ i, i < 25 → krd c v i = krd c u i) : ∀ i, i < 25 → v i = u i := by
  refine kth_inj hv hu (kmv_inj (fun i hi => kth_rng v i hi) (fun i hi => kth_rng u i hi) (kch_inj (fun i _ => kmv_rng _ (kth_rng v 0 (by decide)) i) (fun i _ => kmv_rng _ (kth_rng u 0 (by decide)) i) fun i hi => ?_))
  have e := h i hi
  unfold krd at e
  by_cases h0 : i = 0
  · rw [if_pos h0, if_pos h0] at e
    rw [h0]
    exact xor_inj (kch_rng _ _) (kch_rng _ _) e
  · rw [if_neg h0, if_neg h0] at e
    exact e
/-- The state behind n rounds with the constants c 0, c 1 .. -/
def kpm (c : Nat → Int) : Nat → (Nat → Int) → Nat → Int
  | 0, v => v
  | n + 1, v => krd (c n) (kpm c n v)
theorem kpm_rng (c : Nat → Int) (n : Nat) {v : Nat → Int} (hv : ∀ i, i < 25 → 0 ≤ v i ∧ v i < 18446744073709551616) : ∀ i, i < 25 → 0 ≤ kpm c n v i ∧ kpm c n v i < 18446744073709551616 := by
  cases n with
  | zero => exact hv
  | succ n => exact fun i _ => krd_rng _ _ _
/-- ALL ROUNDS ARE ONE-TO-ONE. -/
theorem kpm_inj (c : Nat → Int) (n : Nat) {v u : Nat → Int} (hv : ∀ i, i < 25 → 0 ≤ v i ∧ v i < 18446744073709551616) (hu : ∀ i, i < 25 → 0 ≤ u i ∧ u i < 18446744073709551616) (h : ∀ i, i < 25 → kpm c n v i = kpm c n u i) : ∀ i, i < 25 → v i = u i := by
  induction n with
  | zero => exact h
  | succ n ih => exact ih (krd_inj (c n) (kpm_rng c n hv) (kpm_rng c n hu) h)
end Go.Proofs.YtcmpnnfnkcmpcaaDoor

/- The permutation's steps take no two states to one: bits. No program is named here. -/
import Derived.WalkKit
namespace Go.Proofs.YtcmpnnfnkcmpcaaDoor
/-- The columns' law, doubled. -/
theorem kdbl {P : Nat → Nat → Bool} {n : Nat} (H : ∀ x z, P (x + n) (z + n) = (P x (z + n) ^^ P (x + 2 * n) z)) : ∀ x z, P (x + 2 * n) (z + 2 * n) = (P x (z + 2 * n) ^^ P (x + 2 * (2 * n)) z) := by
  intro x z
  have h1 := H (x + n) (z + n)
  have h2 := H x (z + n)
  have h3 := H (x + 2 * n) z
  rw [show x + n + n = x + 2 * n by omega, show z + n + n = z + 2 * n by omega, show x + n + 2 * n = x + 2 * n + n by omega] at h1
  rw [show z + n + n = z + 2 * n by omega] at h2
  rw [show x + 2 * n + 2 * n = x + 2 * (2 * n) by omega] at h3
  rw [h1, h2, h3]
  cases P x (z + 2 * n) <;> cases P (x + 2 * n) (z + n) <;> cases P (x + 2 * (2 * n)) z <;> rfl
/-- Five columns that are each the sum of their neighbours are none. -/
theorem kfive : ∀ a b c d e : Bool, e = (a ^^ d) → a = (b ^^ e) → b = (c ^^ a) → c = (d ^^ b) → d = (e ^^ c) → a = false ∧ b = false ∧ c = false ∧ d = false ∧ e = false := by decide
theorem parity_zero {P : Nat → Nat → Bool} (hx : ∀ x z, P (x + 5) z = P x z) (hz : ∀ x z, P x (z + 64) = P x z) (H : ∀ x z, P (x + 1) (z + 1) = (P x (z + 1) ^^ P (x + 2) z)) : ∀ x z, P x z = false := by
  have H1 : ∀ x z, P (x + 1) (z + 1) = (P x (z + 1) ^^ P (x + 2 * 1) z) := H
  have H2 := kdbl H1
  have H4 := kdbl H2
  have H8 := kdbl H4
  have H16 := kdbl H8
  have H32 := kdbl H16
  have H64 := kdbl H32
  simp only [Nat.reduceMul] at H64
  have x5 : ∀ k x z, P (x + 5 * k) z = P x z := by
    intro k
    induction k with
    | zero => intro x z; rfl
    | succ k ih => intro x z; rw [show x + 5 * (k + 1) = x + 5 * k + 5 by omega, hx, ih]
  have K : ∀ x z, P (x + 4) z = (P x z ^^ P (x + 3) z) := by
    intro x z
    have h := H64 x z
    rw [hz, hz, show x + 64 = x + 4 + 5 * 12 by omega, x5, show x + 128 = x + 3 + 5 * 25 by omega, x5] at h
    exact h
  have F : ∀ z, P 0 z = false ∧ P 1 z = false ∧ P 2 z = false ∧ P 3 z = false ∧ P 4 z = false := by
    intro z
    have k0 := K 0 z
    have k1 := K 1 z
    have k2 := K 2 z
    have k3 := K 3 z
    have k4 := K 4 z
    have e5 := hx 0 z
    have e6 := hx 1 z
    have e7 := hx 2 z
    have e8 := hx 3 z
    simp only [Nat.reduceAdd] at k0 k1 k2 k3 k4 e5 e6 e7 e8
    rw [e5] at k1 k2
    rw [e6] at k2 k3
    rw [e7] at k3 k4
    rw [e8] at k4
    exact kfive (P 0 z) (P 1 z) (P 2 z) (P 3 z) (P 4 z) k0 k1 k2 k3 k4
  intro x z
  obtain ⟨f0, f1, f2, f3, f4⟩ := F z
  rw [show x = x % 5 + 5 * (x / 5) by omega, x5]
  have : x % 5 = 0 ∨ x % 5 = 1 ∨ x % 5 = 2 ∨ x % 5 = 3 ∨ x % 5 = 4 := by omega
  rcases this with h | h | h | h | h <;> rw [h] <;> assumption
/-- A row of the last step: which bits there were. -/
theorem chi5 : ∀ a b c d e : Bool, ∀ a' b' c' d' e' : Bool, (a ^^ (!b && c)) = (a' ^^ (!b' && c')) → (b ^^ (!c && d)) = (b' ^^ (!c' && d')) → (c ^^ (!d && e)) = (c' ^^ (!d' && e')) → (d ^^ (!e && a)) = (d' ^^ (!e' && a')) → (e ^^ (!a && b)) = (e' ^^ (!a' && b')) →
    a = a' ∧ b = b' ∧ c = c' ∧ d = d' ∧ e = e' := by decide +kernel
/-- THE FIRST STEP: a state that it takes to nothing is nothing. D x y z: the bit at column x, row y, place z. -/
theorem theta_zero {D : Nat → Nat → Nat → Bool} (hx : ∀ x y z, D (x + 5) y z = D x y z) (hz : ∀ x y z, D x y (z + 64) = D x y z)
    (H : ∀ x y z, y < 5 → D (x + 1) y (z + 1) = ((D x 0 (z + 1) ^^ D x 1 (z + 1) ^^ D x 2 (z + 1) ^^ D x 3 (z + 1) ^^ D x 4 (z + 1)) ^^ (D (x + 2) 0 z ^^ D (x + 2) 1 z ^^ D (x + 2) 2 z ^^ D (x + 2) 3 z ^^ D (x + 2) 4 z))) : ∀ x y z, y < 5 → D x y z = false := by
  have hp := parity_zero (P := fun x z => D x 0 z ^^ D x 1 z ^^ D x 2 z ^^ D x 3 z ^^ D x 4 z) (fun x z => by simp only [hx]) (fun x z => by simp only [hz]) (fun x z => by
    simp only [H x 0 z (by omega), H x 1 z (by omega), H x 2 z (by omega), H x 3 z (by omega), H x 4 z (by omega)]
    generalize (D x 0 (z + 1) ^^ D x 1 (z + 1) ^^ D x 2 (z + 1) ^^ D x 3 (z + 1) ^^ D x 4 (z + 1)) = p
    generalize (D (x + 2) 0 z ^^ D (x + 2) 1 z ^^ D (x + 2) 2 z ^^ D (x + 2) 3 z ^^ D (x + 2) 4 z) = q
    cases p <;> cases q <;> rfl)
  intro x y z hy
  have h := H (x + 4) y (z + 63) hy
  have h1 := hp (x + 4) (z + 63 + 1)
  have h2 := hp (x + 4 + 2) (z + 63)
  rw [h1, h2, show x + 4 + 1 = x + 5 by omega, hx, show z + 63 + 1 = z + 64 by omega, hz] at h
  exact h
end Go.Proofs.YtcmpnnfnkcmpcaaDoor

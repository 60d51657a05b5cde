/- One part of a long quotient, in plain numbers: the guess by the highest parts is never too small. -/
import Derived.Test.YthfadinocadhaaaDoorTake
namespace Go.Proofs.YthfadinocadhaaaDoor
open Go.RowKit

theorem val_lt {f : Nat → Nat} {n : Nat} (h : ∀ j, j < n → f j < 18446744073709551616) : val f n < 18446744073709551616 ^ n := by
  induction n with
  | zero => simp [val]
  | succ n ih =>
    have h1 := ih (fun j hj => h j (by omega))
    have h2 := h n (by omega)
    have h3 : 18446744073709551616 ^ n * f n ≤ 18446744073709551616 ^ n * 18446744073709551615 := Nat.mul_le_mul_left _ (by omega)
    rw [val, Nat.pow_succ]
    omega

theorem val_ge (f : Nat → Nat) (n : Nat) : 18446744073709551616 ^ n * f n ≤ val f (n + 1) := by rw [val]; omega

/-- The guess by the two highest parts of the rest and the highest of the divisor is at least the quotient. -/
theorem guess_least {r d : Nat → Nat} {k : Nat} (hr : ∀ j, j < k + 2 → r j < 18446744073709551616) (hd : 0 < d k) (hlt : val r (k + 2) < 18446744073709551616 * val d (k + 1)) (g : Nat)
    (hg : g = if d k ≤ r (k + 1) then 18446744073709551615 else (r (k + 1) * 18446744073709551616 + r k) / d k) : val r (k + 2) / val d (k + 1) ≤ g := by
  have hP : 0 < 18446744073709551616 ^ k := Nat.pow_pos (by omega)
  have hD := val_ge d k
  have hD0 : 0 < val d (k + 1) := Nat.lt_of_lt_of_le (Nat.mul_pos hP hd) hD
  rw [hg]
  split
  · have : val r (k + 2) / val d (k + 1) < 18446744073709551616 := by rw [Nat.div_lt_iff_lt_mul hD0]; exact hlt
    omega
  · rw [Nat.le_div_iff_mul_le hd]
    have hq := Nat.div_mul_le_self (val r (k + 2)) (val d (k + 1))
    generalize val r (k + 2) / val d (k + 1) = q at *
    have hv := val_lt (fun j hj => hr j (by omega) : ∀ j, j < k → r j < 18446744073709551616)
    have h1 : q * (18446744073709551616 ^ k * d k) ≤ q * val d (k + 1) := Nat.mul_le_mul_left _ hD
    have h2 : val r (k + 2) = val r k + 18446744073709551616 ^ k * (r (k + 1) * 18446744073709551616 + r k) := by
      simp only [val, Nat.pow_succ]
      grind
    have h3 : 18446744073709551616 ^ k * (q * d k) < 18446744073709551616 ^ k * (r (k + 1) * 18446744073709551616 + r k + 1) := by
      have : 18446744073709551616 ^ k * (q * d k) = q * (18446744073709551616 ^ k * d k) := by grind
      rw [this, Nat.mul_add _ (r (k + 1) * 18446744073709551616 + r k) 1, Nat.mul_one]
      omega
    have h4 := Nat.lt_of_mul_lt_mul_left h3
    omega

/-- Where nothing is owed, a part that is not too small is the quotient. -/
theorem part_is {R D N part : Nat} (hD : 0 < D) (h : N + part * D = R) (hl : R / D ≤ part) : part = R / D ∧ N = R % D := by
  have h1 : part ≤ R / D := by rw [Nat.le_div_iff_mul_le hD]; omega
  have e : part = R / D := by omega
  refine ⟨e, ?_⟩
  have := Nat.div_add_mod R D
  rw [← e, Nat.mul_comm] at this
  omega

/-- Where something is owed, the part is too great. -/
theorem part_over {R D N P part : Nat} (hD : 0 < D) (h : N + part * D = R + P) (hN : N < P) : R / D < part := by
  rw [Nat.div_lt_iff_lt_mul hD]
  omega

theorem give_part {R D N N' P part over debt : Nat} (h : N + part * D = R + P * debt) (h1 : N' + P * over = N + D) (hp : 0 < part) (ho : over ≤ debt) : N' + (part - 1) * D = R + P * (debt - over) := by
  obtain ⟨p, rfl⟩ : ∃ p, part = p + 1 := ⟨part - 1, by omega⟩
  obtain ⟨e, rfl⟩ : ∃ e, debt = over + e := ⟨debt - over, by omega⟩
  rw [Nat.add_mul, Nat.one_mul] at h
  rw [Nat.mul_add] at h
  simp only [Nat.add_sub_cancel, Nat.add_sub_cancel_left]
  omega
end Go.Proofs.YthfadinocadhaaaDoor

/- What math/bits.Div64 comes to for a divisor that has its highest bit: the plain reckoning of one half. -/
import Derived.WalkKit
namespace Go.Proofs.Ytgegkffigjogcaa
open Go.RowKit

/-- A guess that is not too small and whose times fit in is the quotient. -/
theorem quot_of {A y q : Nat} (hy : 0 < y) (h1 : q * y ≤ A) (h2 : A / y ≤ q) : q = A / y :=
  Nat.le_antisymm ((Nat.le_div_iff_mul_le hy).2 h1) h2

/-- Half a quotient: the guess q, and what it leaves, r. -/
structure Half (y1 y0 v u q r : Nat) : Prop where
  split : q * y1 + r = v
  least : (v * 4294967296 + u) / (4294967296 * y1 + y0) ≤ q
  most : q ≤ 4294967297
  rest : r < 4294967296

section
variable {y1 y0 v u q r : Nat} (h31 : 2147483648 ≤ y1) (h32 : y1 < 4294967296) (hy0 : y0 < 4294967296) (hu : u < 4294967296)
include h31 h32 hy0 hu

theorem Half.start (hv : v < 4294967296 * y1 + y0) : Half y1 y0 v u (v / y1) (v % y1) := by
  have hpos : 0 < y1 := by omega
  have hd := Nat.div_add_mod v y1
  have hm := Nat.mod_lt v hpos
  refine ⟨by rw [Nat.mul_comm]; exact hd, ?_, ?_, by omega⟩
  · have hlt : v * 4294967296 + u < (v / y1 + 1) * (4294967296 * y1 + y0) := by
      have h1 : v + 1 ≤ (v / y1 + 1) * y1 := by rw [Nat.add_mul, Nat.one_mul, Nat.mul_comm]; omega
      have h2 : (v + 1) * 4294967296 ≤ (v / y1 + 1) * y1 * 4294967296 := Nat.mul_le_mul_right _ h1
      have h3 : (v / y1 + 1) * (4294967296 * y1 + y0) = (v / y1 + 1) * y1 * 4294967296 + (v / y1 + 1) * y0 := by grind
      omega
    have : (v * 4294967296 + u) / (4294967296 * y1 + y0) < v / y1 + 1 := by rw [Nat.div_lt_iff_lt_mul (by omega)]; exact hlt
    omega
  · have : v / y1 < 4294967298 := by rw [Nat.div_lt_iff_lt_mul hpos]; omega
    omega

omit hu in
theorem Half.fits (h : Half y1 y0 v u q r) (h2 : q * y0 ≤ 4294967296 * r + u) : q = (v * 4294967296 + u) / (4294967296 * y1 + y0) := by
  refine quot_of (by omega) ?_ h.least
  have h3 : q * (4294967296 * y1 + y0) = (q * y1) * 4294967296 + q * y0 := by grind
  have h4 := h.split
  omega

omit h31 h32 hy0 in
theorem Half.less (h : Half y1 y0 v u q r) (hv : v < 4294967296 * y1 + y0) (ht : 4294967296 ≤ q ∨ 4294967296 * r + u < q * y0) : (v * 4294967296 + u) / (4294967296 * y1 + y0) < q := by
  rcases ht with ht | ht
  · refine Nat.lt_of_lt_of_le ?_ ht
    rw [Nat.div_lt_iff_lt_mul (by omega)]
    omega
  · rw [Nat.div_lt_iff_lt_mul (by omega)]
    have h3 : q * (4294967296 * y1 + y0) = (q * y1) * 4294967296 + q * y0 := by grind
    have h4 := h.split
    omega

omit h31 h32 hy0 in
theorem Half.down {p : Nat} (h : Half y1 y0 v u (p + 1) r) (hv : v < 4294967296 * y1 + y0) (ht : 4294967296 ≤ p + 1 ∨ 4294967296 * r + u < (p + 1) * y0) (hr : r + y1 < 4294967296) : Half y1 y0 v u p (r + y1) := by
  have hl := h.less hu hv ht
  have h4 := h.split
  have h5 := h.most
  exact ⟨by rw [Nat.add_mul] at h4; omega, by omega, by omega, hr⟩

omit h31 h32 in
theorem Half.ends {p : Nat} (h : Half y1 y0 v u (p + 1) r) (hv : v < 4294967296 * y1 + y0) (ht : 4294967296 ≤ p + 1 ∨ 4294967296 * r + u < (p + 1) * y0) (hr : 4294967296 ≤ r + y1) : p = (v * 4294967296 + u) / (4294967296 * y1 + y0) := by
  have hl := h.less hu hv ht
  have h4 := h.split
  have h5 := h.most
  refine quot_of (by omega) ?_ (by omega)
  have h3 : p * (4294967296 * y1 + y0) = (p * y1) * 4294967296 + p * y0 := by grind
  have h6 : p * y0 ≤ 4294967296 * 4294967295 := Nat.mul_le_mul (by omega) (by omega)
  rw [Nat.add_mul] at h4
  omega

omit h31 h32 hy0 in
theorem Half.pos (h : Half y1 y0 v u q r) (hv : v < 4294967296 * y1 + y0) (ht : 4294967296 ≤ q ∨ 4294967296 * r + u < q * y0) : 0 < q := by
  exact Nat.lt_of_le_of_lt (Nat.zero_le _) (h.less hu hv ht)
end

/-- Both halves are the whole. -/
theorem halves {y hi u1 u0 : Nat} (hy : 0 < y) :
    (hi * 4294967296 + u1) / y * 4294967296 + ((hi * 4294967296 + u1) % y * 4294967296 + u0) / y = (hi * 18446744073709551616 + (u1 * 4294967296 + u0)) / y := by
  have hd := Nat.div_add_mod (hi * 4294967296 + u1) y
  have e : hi * 18446744073709551616 + (u1 * 4294967296 + u0) = (hi * 4294967296 + u1) * 4294967296 + u0 := by omega
  rw [e]
  have e2 : (hi * 4294967296 + u1) * 4294967296 + u0 = y * ((hi * 4294967296 + u1) / y * 4294967296) + ((hi * 4294967296 + u1) % y * 4294967296 + u0) := by
    have : (hi * 4294967296 + u1) * 4294967296 = (y * ((hi * 4294967296 + u1) / y) + (hi * 4294967296 + u1) % y) * 4294967296 := by rw [hd]
    rw [this]
    grind
  rw [e2, Nat.mul_add_div hy]
end Go.Proofs.Ytgegkffigjogcaa

/- What word.guess comes to for a divisor that has its highest bit; what math/bits.LeadingZeros64 and Div64 say of it. -/
import Derived.Test.YtgegkffigjogcaaDivW
import Derived.Deep.QuietTactic
import Derived.BigQuiet
import Derived.Lib.ItoaNum
import Derived.Laws.Bits64b
namespace Go.Proofs.Ytgegkffigjogcaa
open Go.RowKit

theorem bitLen_bounds (x : Nat) (h : x < 18446744073709551616) (h0 : x ≠ 0) : 1 ≤ Lib.bitLen x ∧ 2 ^ (Lib.bitLen x - 1) ≤ x ∧ x < 2 ^ Lib.bitLen x := Lib.bitLenAux_bounds 64 x (by omega) h0

theorem bitLen_full (x : Nat) (h : x < 18446744073709551616) (h0 : 9223372036854775808 ≤ x) : Lib.bitLen x = 64 := by
  obtain ⟨-, h2, h3⟩ := bitLen_bounds x h (by omega)
  have h4 : ¬ Lib.bitLen x ≤ 63 := fun h => by
    have := Nat.pow_le_pow_right (n := 2) (by omega) h
    omega
  have h5 : ¬ 65 ≤ Lib.bitLen x := fun h => by
    have := Nat.pow_le_pow_right (n := 2) (by omega) (show 64 ≤ Lib.bitLen x - 1 by omega)
    omega
  omega

set_option maxRecDepth 100000 in
set_option maxHeartbeats 1000000 in
theorem div64_small (lo y : Nat) (h0 : (0 : Int) < y) (hlo : (lo : Int) ≤ 18446744073709551615) (w : World) :
    Calls Try.prog 77 #[.int .u64 0, .int .u64 lo, .int .u64 y] w fun e w' => e = .returned (.tuple #[.int .u64 ((lo / y : Nat) : Int), .int .u64 ((lo % y : Nat) : Int)]) ∧ w.drew = w' := by
  have n0 : ((y : Int) == 0) = false := by simp; omega
  have n1 : ¬ (y : Int) ≤ 0 := by omega
  have n2 : (1 : Int) ≤ y := by omega
  have n3 : (0 : Int) ≤ lo := by omega
  have n4 : (lo : Int) / y ≤ lo := by rw [← Int.natCast_ediv]; have := Nat.div_le_self lo y; omega
  have n5 : (0 : Int) ≤ (lo : Int) / y := Int.ediv_nonneg (by omega) (by omega)
  have n6 : IntKind.u64.wrap ((lo : Int) / y) = (lo : Int) / y := by rw [IntKind.wrap_u64]; omega
  go_enter Try.func77, Try.ntmps77
  go_wp2_with fail
  go_region
  go_wp2
  go_ret2
  exact ⟨by simp, rfl⟩

/-- What guess tells. -/
def guessN (high next b : Nat) : Nat := if b ≤ high then 18446744073709551615 else (high * 18446744073709551616 + next) / b

theorem div64_any (hi lo y : Nat) (hh : hi < 18446744073709551616) (hn : lo < 18446744073709551616) (hb : y < 18446744073709551616) (hb1 : 9223372036854775808 ≤ y) (h : hi < y) (w : World) :
    Calls Try.prog 77 #[.int .u64 hi, .int .u64 lo, .int .u64 y] w fun e w' => (∃ r : Int, e = .returned (.tuple #[.int .u64 ((hi * 18446744073709551616 + lo) / y : Nat), .int .u64 r])) ∧ ∃ m, w' = w.drewN m := by
  by_cases h0 : hi = 0
  · subst h0
    rw [Nat.zero_mul, Nat.zero_add]
    refine (div64_small lo y (by omega) (by omega) w).mono fun e w' ⟨he, hw⟩ => ⟨⟨_, he⟩, 1, hw ▸ rfl⟩
  · have hz : Lib.bitLen ((y : Int)).toNat = 64 := by rw [Int.toNat_natCast]; exact bitLen_full y hb hb1
    have hL : ∀ w, Calls Try.prog 79 #[.int .u64 y] w fun e w' => e = .returned (.int .i64 0) ∧ w = w' := fun w =>
      (Try.bits_LeadingZeros64 y w (by omega) (by omega)).mono fun e w' ⟨he, hw⟩ => ⟨by rw [he, hz]; rfl, hw.symm⟩
    have e1 : ∀ x : Nat, x < 18446744073709551616 → bits .and .u64 (x : Int) 4294967295 = ((x % 4294967296 : Nat) : Int) := fun x hx => by
      have := bits_and_u64_nat x 4294967295 hx (by omega)
      rw [show x &&& 4294967295 = x % 4294967296 from Nat.and_two_pow_sub_one_eq_mod x 32] at this
      exact this
    have e2 : bits .or .u64 (hi : Int) 0 = (hi : Int) := by
      have := bits_or_u64_nat hi 0 hh (by omega)
      rw [Nat.or_zero] at this
      exact this
    refine Calls.mono (R := DivPost ((hi * 18446744073709551616 + lo) / y) w) ?_ (fun e w' h => ⟨h.1, 0, h.2 ▸ rfl⟩)
    exact div64_big hi lo y (y / 4294967296) (y % 4294967296) (lo / 4294967296) (lo % 4294967296) (by omega) (by omega) (by omega) (by omega) (by omega) (by omega) (by omega) (by omega) (by omega) w (e1 y hb) (e1 lo hn) e2 hL
end Go.Proofs.Ytgegkffigjogcaa

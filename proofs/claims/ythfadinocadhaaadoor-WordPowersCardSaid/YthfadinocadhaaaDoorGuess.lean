/- What word.guess comes to for a divisor that has its highest bit; what math/bits.LeadingZeros64 and Div64 say of it. -/
import Derived.Test.YthfadinocadhaaaDoorDivW
import Derived.Deep.QuietTactic
import Derived.BigQuiet
import Derived.Lib.ItoaNum
import Derived.Laws.Bits64b
namespace Go.Proofs.YthfadinocadhaaaDoor
open Go.RowKit

theorem bitLen_bounds (x : Nat) (h : x < 18446744073709551616) (h0 : x ≠ 0) : 1 ≤ Lib.bitLen x ∧ 2 ^ (Lib.bitLen x - 1) ≤ x ∧ x < 2 ^ Lib.bitLen x := Lib.bitLenAux_bounds 64 x (by omega) h0

theorem bitLen_full (x : Nat) (h : x < 18446744073709551616) (h0 : 9223372036854775808 ≤ x) : Lib.bitLen x = 64 := by
  obtain ⟨-, h2, h3⟩ := bitLen_bounds x h (by omega)
  have h4 : ¬ Lib.bitLen x ≤ 63 := fun h => by
    have := Nat.pow_le_pow_right (n := 2) (by omega) h
    omega
  have h5 : ¬ 65 ≤ Lib.bitLen x := fun h => by
    have := Nat.pow_le_pow_right (n := 2) (by omega) (show 64 ≤ Lib.bitLen x - 1 by omega)
    omega
  omega

set_option maxRecDepth 100000 in
set_option maxHeartbeats 1000000 in
theorem div64_small (lo y : Nat) (h0 : (0 : Int) < y) (hlo : (lo : Int) ≤ 18446744073709551615) (w : World) :
    Calls Tryd.prog 118 #[.int .u64 0, .int .u64 lo, .int .u64 y] w fun e w' => e = .returned (.tuple #[.int .u64 ((lo / y : Nat) : Int), .int .u64 ((lo % y : Nat) : Int)]) ∧ w.drew = w' := by
  have n0 : ((y : Int) == 0) = false := by simp; omega
  have n1 : ¬ (y : Int) ≤ 0 := by omega
  have n2 : (1 : Int) ≤ y := by omega
  have n3 : (0 : Int) ≤ lo := by omega
  have n4 : (lo : Int) / y ≤ lo := by rw [← Int.natCast_ediv]; have := Nat.div_le_self lo y; omega
  have n5 : (0 : Int) ≤ (lo : Int) / y := Int.ediv_nonneg (by omega) (by omega)
  have n6 : IntKind.u64.wrap ((lo : Int) / y) = (lo : Int) / y := by rw [IntKind.wrap_u64]; omega
  go_enter Tryd.func118, Tryd.ntmps118
  go_wp2_with fail
  go_region
  go_wp2
  go_ret2
  exact ⟨by simp, rfl⟩

/-- What guess tells. -/
def guessN (high next b : Nat) : Nat := if b ≤ high then 18446744073709551615 else (high * 18446744073709551616 + next) / b

set_option maxRecDepth 100000 in
set_option maxHeartbeats 1000000 in
theorem guess_over (high next b : Nat) (h : (b : Int) ≤ high) (w : World) :
    Calls Tryd.prog 107 #[.int .u64 high, .int .u64 next, .int .u64 b] w fun e w' => e = .returned (.int .u64 18446744073709551615) ∧ w = w' := by
  go_enter Tryd.func107, Tryd.ntmps107
  go_wp2
  go_ret
  exact ⟨rfl, rfl⟩

set_option maxRecDepth 100000 in
set_option maxHeartbeats 1000000 in
theorem guess_under (high next b q : Nat) (h : ¬ (b : Int) ≤ high) (w w1 : World) (r : Int)
    (hD : Calls Tryd.prog 118 #[.int .u64 high, .int .u64 next, .int .u64 b] w fun e w' => e = .returned (.tuple #[.int .u64 q, .int .u64 r]) ∧ w1 = w') :
    Calls Tryd.prog 107 #[.int .u64 high, .int .u64 next, .int .u64 b] w fun e w' => e = .returned (.int .u64 q) ∧ w1 = w' := by
  have HD := Lib.hid hD; clear hD
  go_enter Tryd.func107, Tryd.ntmps107
  go_wp2_with fail
  refine HD.out.mono ?_
  rintro e w' ⟨rfl, rfl⟩
  go_wp2
  go_ret
  exact ⟨rfl, rfl⟩

set_option maxRecDepth 100000 in
set_option maxHeartbeats 1000000 in
theorem guess_under' (high next b q : Nat) (h : ¬ (b : Int) ≤ high) (w : World)
    (hD : Calls Tryd.prog 118 #[.int .u64 high, .int .u64 next, .int .u64 b] w (DivPost q w)) :
    Calls Tryd.prog 107 #[.int .u64 high, .int .u64 next, .int .u64 b] w fun e w' => e = .returned (.int .u64 q) ∧ w = w' := by
  have HD := Lib.hid hD; clear hD
  go_enter Tryd.func107, Tryd.ntmps107
  go_wp2_with fail
  refine HD.out.mono ?_
  rintro e w' ⟨⟨r, rfl⟩, rfl⟩
  go_wp2
  go_ret
  exact ⟨rfl, rfl⟩

/-- WHAT guess COMES TO, for a divisor that has its highest bit. -/
theorem guess_any (high next b : Nat) (hh : high < 18446744073709551616) (hn : next < 18446744073709551616) (hb : b < 18446744073709551616) (hb1 : 9223372036854775808 ≤ b) (w : World) :
    Calls Tryd.prog 107 #[.int .u64 high, .int .u64 next, .int .u64 b] w fun e w' => e = .returned (.int .u64 (guessN high next b : Nat)) ∧ ∃ m, w' = w.drewN m := by
  unfold guessN
  by_cases h : b ≤ high
  · rw [if_pos h]
    exact (guess_over high next b (by omega) w).mono fun e w' ⟨he, hw⟩ => ⟨he, 0, hw ▸ rfl⟩
  · rw [if_neg h]
    by_cases h0 : high = 0
    · subst h0
      rw [Nat.zero_mul, Nat.zero_add]
      exact (guess_under 0 next b (next / b) (by omega) w w.drew _ (div64_small next b (by omega) (by omega) w)).mono fun e w' ⟨he, hw⟩ => ⟨he, 1, hw ▸ rfl⟩
    · have hz : Lib.bitLen ((b : Int)).toNat = 64 := by rw [Int.toNat_natCast]; exact bitLen_full b hb hb1
      have hL : ∀ w, Calls Tryd.prog 95 #[.int .u64 b] w fun e w' => e = .returned (.int .i64 0) ∧ w = w' := fun w =>
        (Tryd.bits_LeadingZeros64 b w (by omega) (by omega)).mono fun e w' ⟨he, hw⟩ => ⟨by rw [he, hz]; rfl, hw.symm⟩
      have e1 : ∀ x : Nat, x < 18446744073709551616 → bits .and .u64 (x : Int) 4294967295 = ((x % 4294967296 : Nat) : Int) := fun x hx => by
        have := bits_and_u64_nat x 4294967295 hx (by omega)
        rw [show x &&& 4294967295 = x % 4294967296 from Nat.and_two_pow_sub_one_eq_mod x 32] at this
        exact this
      have e2 : bits .or .u64 (high : Int) 0 = (high : Int) := by
        have := bits_or_u64_nat high 0 hh (by omega)
        rw [Nat.or_zero] at this
        exact this
      have h := div64_big high next b (b / 4294967296) (b % 4294967296) (next / 4294967296) (next % 4294967296) (by omega) (by omega) (by omega) (by omega) (by omega) (by omega) (by omega) (by omega) (by omega) w (e1 b hb) (e1 next hn) e2 hL
      exact (guess_under' high next b _ (by omega) w h).mono fun e w' ⟨he, hw⟩ => ⟨he, 0, hw ▸ rfl⟩
end Go.Proofs.YthfadinocadhaaaDoor

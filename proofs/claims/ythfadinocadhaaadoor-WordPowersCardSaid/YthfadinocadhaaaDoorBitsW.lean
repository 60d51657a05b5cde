/- What word.hasBit, word.Len, bailiwickref01.Bit come to, called with any word. -/
import Derived.Test.YthfadinocadhaaaDoorRefs
import Derived.Test.YthfadinocadhaaaDoorGuess
namespace Go.Proofs.YthfadinocadhaaaDoor
open Go.RowKit

theorem and_one (z : Nat) (h : z < 18446744073709551616) : bits .and .u64 z 1 = ((z % 2 : Nat) : Int) := by
  have := bits_and_u64_nat z 1 h (by omega)
  rw [Nat.and_one_is_mod] at this
  exact this
theorem bit_of (x i p s : Nat) (hp : i / 64 = p) (hs : i % 64 = s) : pN x p / 2 ^ s % 2 = x % 115792089237316195423570985008687907853269984665640564039457584007913129639936 / 2 ^ i % 2 := by
  subst hp hs
  unfold pN
  have e : 18446744073709551616 = 2 ^ (i % 64) * 2 ^ (64 - i % 64) := by rw [← Nat.pow_add, show i % 64 + (64 - i % 64) = 64 by omega]
  have hd : (2 : Nat) ∣ 2 ^ (64 - i % 64) := by
    have := Nat.pow_dvd_pow 2 (show 1 ≤ 64 - i % 64 by omega)
    simpa using this
  rw [e, Nat.mod_mul_right_div_self, Nat.mod_mod_of_dvd _ hd, Nat.div_div_eq_div_mul, ← Nat.pow_add, show 64 * (i / 64) + i % 64 = i by omega]
theorem pw_at (x p : Nat) (h : p < 4) : (pw x)[p]? = some (.int .u64 (pN x p : Nat)) := by
  have c : p = 0 ∨ p = 1 ∨ p = 2 ∨ p = 3 := by omega
  rcases c with rfl | rfl | rfl | rfl
  · simp [pw, pN]
  · simp [pw, pN]; omega
  · simp [pw, pN]; omega
  · simp [pw, pN]; omega

set_option maxRecDepth 100000 in
set_option maxHeartbeats 1000000 in
theorem hasBit_any (x i : Nat) (hi : i < 256) (w : World) : Calls Tryd.prog 69 #[wv x, .int .i64 i] w fun e w' => e = .returned (.bool (decide (x % 115792089237316195423570985008687907853269984665640564039457584007913129639936 / 2 ^ i % 2 = 1))) ∧ Below w.heap.size w w' := by
  rw [wv_pw]
  obtain ⟨p, hp⟩ : ∃ p : Nat, (i : Int) / 64 = (p : Int) := ⟨i / 64, by omega⟩
  obtain ⟨s, hs⟩ : ∃ s : Nat, (i : Int) % 64 = (s : Int) := ⟨i % 64, by omega⟩
  have hv : bits .and .u64 (((pN x p : Nat) : Int) / 2 ^ s) 1 = ((x % 115792089237316195423570985008687907853269984665640564039457584007913129639936 / 2 ^ i % 2 : Nat) : Int) := by
    rw [← bit_of x i p s (by omega) (by omega)]
    have h := and_one (pN x p / 2 ^ s) (Nat.lt_of_le_of_lt (Nat.div_le_self _ _) (pN_le x p))
    simpa using h
  have hpl := pN_le x p
  have hi0 : (0 : Int) ≤ i := by omega
  have hi1 : (i : Int) < 256 := by omega
  have hp0 : (0 : Int) ≤ p := by omega
  have hp1 : (p : Int) < 4 := by omega
  have hs0 : (0 : Int) ≤ s := by omega
  have hs1 : (s : Int) < 64 := by omega
  have ca : (w.alloc (.cells (pw x) 24)).cell? ⟨w.heap.size, p, none⟩ = some (.int .u64 (pN x p : Nat)) := (cell_of_row _ _ p _ _ _ (heap_alloc_new w _)).trans (pw_at x p (by omega))
  generalize x % 115792089237316195423570985008687907853269984665640564039457584007913129639936 / 2 ^ i % 2 = c at *
  have hc : c = c := rfl
  have e : (((c : Nat) : Int) == 1) = decide (c = 1) := by
    rw [Bool.eq_iff_iff, beq_iff_eq, decide_eq_true_eq]; omega
  go_enter Tryd.func69, Tryd.ntmps69
  go_wp2
  go_ret
  exact ⟨rfl, by go_grown⟩

set_option maxRecDepth 100000 in
set_option maxHeartbeats 1000000 in
theorem bit_ref (x i : Nat) (hi : i < 256) (w : World) : Calls Tryd.prog 70 #[wv x, .int .i64 i] w fun e w' => e = .returned (.int .u64 ((x % 115792089237316195423570985008687907853269984665640564039457584007913129639936 / 2 ^ i % 2 : Nat) : Int)) ∧ Below w.heap.size w w' := by
  rw [wv_pw]
  obtain ⟨p, hp⟩ : ∃ p : Nat, (i : Int) / 64 = (p : Int) := ⟨i / 64, by omega⟩
  obtain ⟨s, hs⟩ : ∃ s : Nat, (i : Int) % 64 = (s : Int) := ⟨i % 64, by omega⟩
  have hv : bits .and .u64 (((pN x p : Nat) : Int) / 2 ^ s) 1 = ((x % 115792089237316195423570985008687907853269984665640564039457584007913129639936 / 2 ^ i % 2 : Nat) : Int) := by
    rw [← bit_of x i p s (by omega) (by omega)]
    have h := and_one (pN x p / 2 ^ s) (Nat.lt_of_le_of_lt (Nat.div_le_self _ _) (pN_le x p))
    simpa using h
  have hpl := pN_le x p
  have hi0 : (0 : Int) ≤ i := by omega
  have hi1 : (i : Int) < 256 := by omega
  have hp0 : (0 : Int) ≤ p := by omega
  have hp1 : (p : Int) < 4 := by omega
  have hs0 : (0 : Int) ≤ s := by omega
  have hs1 : (s : Int) < 64 := by omega
  have ca : (w.alloc (.cells (pw x) 24)).cell? ⟨w.heap.size, p, none⟩ = some (.int .u64 (pN x p : Nat)) := (cell_of_row _ _ p _ _ _ (heap_alloc_new w _)).trans (pw_at x p (by omega))
  generalize x % 115792089237316195423570985008687907853269984665640564039457584007913129639936 / 2 ^ i % 2 = c at *
  go_enter Tryd.func70, Tryd.ntmps70
  go_wp2
  go_ret
  exact ⟨rfl, by go_grown⟩

set_option maxRecDepth 100000 in
set_option maxHeartbeats 1000000 in
theorem len_0  (w : World) : Calls Tryd.prog 45 #[.agg #[.int .u64 0, .int .u64 0, .int .u64 0, .int .u64 0]] w fun e w' => e = .returned (.int .i64 0) ∧ Below w.heap.size w w' := by
  go_enter Tryd.func45, Tryd.ntmps45
  go_wp2
  refine wp_loop_rounds 5 ?_
  rw [rounds_succ]; go_wp2
  rw [rounds_succ]; go_wp2
  rw [rounds_succ]; go_wp2
  rw [rounds_succ]; go_wp2
  rw [rounds_succ]; go_wp2
  go_ret
  exact ⟨rfl, by go_grown⟩

set_option maxRecDepth 100000 in
set_option maxHeartbeats 1000000 in
theorem len_1 (a0 : Nat) (h0 : ((a0 : Int) != 0) = true) (hl0 : (a0 : Int) ≤ 18446744073709551615) (w : World) : Calls Tryd.prog 45 #[.agg #[.int .u64 a0, .int .u64 0, .int .u64 0, .int .u64 0]] w fun e w' => e = .returned (.int .i64 (Lib.bitLen a0 : Nat)) ∧ Below w.heap.size w w' := by
  have hL := fun w => Tryd.bits_Len64 (a0 : Int) w (by omega) hl0
  rw [Int.toNat_natCast] at hL
  have hb : Lib.bitLen a0 ≤ 64 := by
    by_cases h : a0 = 0
    · rw [h]; decide
    · obtain ⟨-, h2, -⟩ := bitLen_bounds a0 (by omega) h
      have h5 : ¬ 65 ≤ Lib.bitLen a0 := fun h => by
        have := Nat.pow_le_pow_right (n := 2) (by omega) (show 64 ≤ Lib.bitLen a0 - 1 by omega)
        omega
      omega
  generalize Lib.bitLen a0 = L at *
  have hb0 : (0 : Int) ≤ L := by omega
  have hb1 : (L : Int) ≤ 64 := by omega
  go_enter Tryd.func45, Tryd.ntmps45
  go_wp2
  refine wp_loop_rounds 4 ?_
  rw [rounds_succ]; go_wp2
  rw [rounds_succ]; go_wp2
  rw [rounds_succ]; go_wp2
  rw [rounds_succ]; go_wp2_with fail
  refine (hL _).mono ?_
  rintro e w' ⟨rfl, hw⟩
  subst hw
  go_wp2
  go_ret
  exact ⟨rfl, by go_grown⟩

set_option maxRecDepth 100000 in
set_option maxHeartbeats 1000000 in
theorem len_2 (a0 a1 : Nat) (h1 : ((a1 : Int) != 0) = true) (hl1 : (a1 : Int) ≤ 18446744073709551615) (w : World) : Calls Tryd.prog 45 #[.agg #[.int .u64 a0, .int .u64 a1, .int .u64 0, .int .u64 0]] w fun e w' => e = .returned (.int .i64 (64 + (Lib.bitLen a1 : Nat))) ∧ Below w.heap.size w w' := by
  have hL := fun w => Tryd.bits_Len64 (a1 : Int) w (by omega) hl1
  rw [Int.toNat_natCast] at hL
  have hb : Lib.bitLen a1 ≤ 64 := by
    by_cases h : a1 = 0
    · rw [h]; decide
    · obtain ⟨-, h2, -⟩ := bitLen_bounds a1 (by omega) h
      have h5 : ¬ 65 ≤ Lib.bitLen a1 := fun h => by
        have := Nat.pow_le_pow_right (n := 2) (by omega) (show 64 ≤ Lib.bitLen a1 - 1 by omega)
        omega
      omega
  generalize Lib.bitLen a1 = L at *
  have hb0 : (0 : Int) ≤ L := by omega
  have hb1 : (L : Int) ≤ 64 := by omega
  go_enter Tryd.func45, Tryd.ntmps45
  go_wp2
  refine wp_loop_rounds 3 ?_
  rw [rounds_succ]; go_wp2
  rw [rounds_succ]; go_wp2
  rw [rounds_succ]; go_wp2_with fail
  refine (hL _).mono ?_
  rintro e w' ⟨rfl, hw⟩
  subst hw
  go_wp2
  go_ret
  exact ⟨rfl, by go_grown⟩

set_option maxRecDepth 100000 in
set_option maxHeartbeats 1000000 in
theorem len_3 (a0 a1 a2 : Nat) (h2 : ((a2 : Int) != 0) = true) (hl2 : (a2 : Int) ≤ 18446744073709551615) (w : World) : Calls Tryd.prog 45 #[.agg #[.int .u64 a0, .int .u64 a1, .int .u64 a2, .int .u64 0]] w fun e w' => e = .returned (.int .i64 (128 + (Lib.bitLen a2 : Nat))) ∧ Below w.heap.size w w' := by
  have hL := fun w => Tryd.bits_Len64 (a2 : Int) w (by omega) hl2
  rw [Int.toNat_natCast] at hL
  have hb : Lib.bitLen a2 ≤ 64 := by
    by_cases h : a2 = 0
    · rw [h]; decide
    · obtain ⟨-, h2, -⟩ := bitLen_bounds a2 (by omega) h
      have h5 : ¬ 65 ≤ Lib.bitLen a2 := fun h => by
        have := Nat.pow_le_pow_right (n := 2) (by omega) (show 64 ≤ Lib.bitLen a2 - 1 by omega)
        omega
      omega
  generalize Lib.bitLen a2 = L at *
  have hb0 : (0 : Int) ≤ L := by omega
  have hb1 : (L : Int) ≤ 64 := by omega
  go_enter Tryd.func45, Tryd.ntmps45
  go_wp2
  refine wp_loop_rounds 2 ?_
  rw [rounds_succ]; go_wp2
  rw [rounds_succ]; go_wp2_with fail
  refine (hL _).mono ?_
  rintro e w' ⟨rfl, hw⟩
  subst hw
  go_wp2
  go_ret
  exact ⟨rfl, by go_grown⟩

set_option maxRecDepth 100000 in
set_option maxHeartbeats 1000000 in
theorem len_4 (a0 a1 a2 a3 : Nat) (h3 : ((a3 : Int) != 0) = true) (hl3 : (a3 : Int) ≤ 18446744073709551615) (w : World) : Calls Tryd.prog 45 #[.agg #[.int .u64 a0, .int .u64 a1, .int .u64 a2, .int .u64 a3]] w fun e w' => e = .returned (.int .i64 (192 + (Lib.bitLen a3 : Nat))) ∧ Below w.heap.size w w' := by
  have hL := fun w => Tryd.bits_Len64 (a3 : Int) w (by omega) hl3
  rw [Int.toNat_natCast] at hL
  have hb : Lib.bitLen a3 ≤ 64 := by
    by_cases h : a3 = 0
    · rw [h]; decide
    · obtain ⟨-, h2, -⟩ := bitLen_bounds a3 (by omega) h
      have h5 : ¬ 65 ≤ Lib.bitLen a3 := fun h => by
        have := Nat.pow_le_pow_right (n := 2) (by omega) (show 64 ≤ Lib.bitLen a3 - 1 by omega)
        omega
      omega
  generalize Lib.bitLen a3 = L at *
  have hb0 : (0 : Int) ≤ L := by omega
  have hb1 : (L : Int) ≤ 64 := by omega
  go_enter Tryd.func45, Tryd.ntmps45
  go_wp2
  refine wp_loop_rounds 1 ?_
  rw [rounds_succ]; go_wp2_with fail
  refine (hL _).mono ?_
  rintro e w' ⟨rfl, hw⟩
  subst hw
  go_wp2
  go_ret
  exact ⟨rfl, by go_grown⟩
end Go.Proofs.YthfadinocadhaaaDoor

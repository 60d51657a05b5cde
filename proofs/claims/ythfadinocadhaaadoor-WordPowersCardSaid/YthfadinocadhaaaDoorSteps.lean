/- What word.Small, word.steps come to, called with any words in any world. -/
import Derived.Test.YthfadinocadhaaaDoorSmall
namespace Go.Proofs.YthfadinocadhaaaDoor
open Go.RowKit

-- WHAT Small COMES TO.
theorem small_any (x : Nat) (w : World) :
    Calls Tryd.prog 52 #[wv x] w fun e w' => e = .returned (.tuple #[.int .u64 ((if x % 115792089237316195423570985008687907853269984665640564039457584007913129639936 < 18446744073709551616 then x % 115792089237316195423570985008687907853269984665640564039457584007913129639936 else 0 : Nat) : Int), .bool (decide (x % 115792089237316195423570985008687907853269984665640564039457584007913129639936 < 18446744073709551616))]) ∧ Below w.heap.size w w' := by
  obtain ⟨a0, a1, a2, a3, u0, u1, u2, u3, ea, na⟩ := wv_parts x
  rw [ea, ← na]
  by_cases h : a1 = 0 ∧ a2 = 0 ∧ a3 = 0
  · obtain ⟨rfl, rfl, rfl⟩ := h
    have e : n4 a0 0 0 0 = a0 := by unfold n4; omega
    rw [e, if_pos u0, decide_eq_true u0]
    exact small_yes a0 w
  · have e : ¬ n4 a0 a1 a2 a3 < 18446744073709551616 := by unfold n4; omega
    rw [if_neg e, decide_eq_false e]
    exact small_no a0 a1 a2 a3 h w

set_option maxRecDepth 100000 in
set_option maxHeartbeats 400000 in
theorem steps_few (a0 a1 a2 a3 n : Nat) (hn : (n : Int) ≤ 256) (w : World)
    (hS : ∀ w, Calls Tryd.prog 52 #[.agg #[.int .u64 a0, .int .u64 a1, .int .u64 a2, .int .u64 a3]] w fun e w' => e = .returned (.tuple #[.int .u64 n, .bool true]) ∧ Below w.heap.size w w') :
    Calls Tryd.prog 80 #[.agg #[.int .u64 a0, .int .u64 a1, .int .u64 a2, .int .u64 a3]] w fun e w' => e = .returned (.tuple #[.int .i64 ((n / 64 : Nat) : Int), .int .i64 ((n % 64 : Nat) : Int)]) ∧ Below w.heap.size w w' := by
  have hn' : ¬ (256 : Int) < n := by omega
  have h0 : (0 : Int) ≤ n := by omega
  go_enter Tryd.func80, Tryd.ntmps80
  go_wp2_with fail
  refine (hS _).mono ?_
  rintro e w1 ⟨rfl, hb⟩
  have hb' : Below w.heap.size w w1 := Below.trans (by go_grown) (hb.mono (by simp))
  clear hb
  go_wp2
  go_outline
  go_ret2
  exact ⟨by simp, hb'⟩

set_option maxRecDepth 100000 in
set_option maxHeartbeats 400000 in
theorem steps_many (a0 a1 a2 a3 n : Nat) (b : Bool) (hn : b = true → (256 : Int) < n) (w : World)
    (hS : ∀ w, Calls Tryd.prog 52 #[.agg #[.int .u64 a0, .int .u64 a1, .int .u64 a2, .int .u64 a3]] w fun e w' => e = .returned (.tuple #[.int .u64 n, .bool b]) ∧ Below w.heap.size w w') :
    Calls Tryd.prog 80 #[.agg #[.int .u64 a0, .int .u64 a1, .int .u64 a2, .int .u64 a3]] w fun e w' => e = .returned (.tuple #[.int .i64 4, .int .i64 0]) ∧ Below w.heap.size w w' := by
  have h0 : (0 : Int) ≤ n := by omega
  cases b
  all_goals
    try have hn' := hn rfl
    clear hn
    go_enter Tryd.func80, Tryd.ntmps80
    go_wp2_with fail
    refine (hS _).mono ?_
    rintro e w1 ⟨rfl, hb⟩
    have hb' : Below w.heap.size w w1 := Below.trans (by go_grown) (hb.mono (by simp))
    clear hb
    go_wp2
    go_ret2
    exact ⟨by simp, hb'⟩

-- WHAT steps COMES TO.
theorem steps_any (x : Nat) (w : World) :
    Calls Tryd.prog 80 #[wv x] w fun e w' => e = .returned (.tuple #[.int .i64 ((min (x % 115792089237316195423570985008687907853269984665640564039457584007913129639936) 256 / 64 : Nat) : Int), .int .i64 ((min (x % 115792089237316195423570985008687907853269984665640564039457584007913129639936) 256 % 64 : Nat) : Int)]) ∧ Below w.heap.size w w' := by
  have hS := fun w => small_any x w
  obtain ⟨a0, a1, a2, a3, u0, u1, u2, u3, ea, na⟩ := wv_parts x
  generalize x % 115792089237316195423570985008687907853269984665640564039457584007913129639936 = y at *
  rw [ea] at hS
  rw [ea]
  by_cases h : y ≤ 256
  · rw [if_pos (by omega), decide_eq_true (by omega)] at hS
    rw [Nat.min_eq_left h]
    exact steps_few a0 a1 a2 a3 y (by omega) w hS
  · rw [Nat.min_eq_right (by omega)]
    exact steps_many a0 a1 a2 a3 _ _ (fun hb => by rw [if_pos (by simpa using hb)]; omega) w hS
end Go.Proofs.YthfadinocadhaaaDoor

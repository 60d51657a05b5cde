/- What word.Cmp comes to, called with any words in any world. -/
import Derived.Test.YthfadinocadhaaaDoorEq
import Derived.Deep.QuietTactic
import Derived.BigQuiet
namespace Go.Proofs.YthfadinocadhaaaDoor
open Go.RowKit

theorem nan_any (x : Nat) (w : World) : Calls Tryd.prog 92 #[.int .u64 x] w fun e w' => e = .returned (.bool false) ∧ w = w' := by
  go_enter Tryd.func92, Tryd.ntmps92
  go_wp2
  go_ret
  exact ⟨rfl, rfl⟩

set_option maxHeartbeats 400000 in
theorem compare_lt (x y : Nat) (h : (x : Int) < y) (w : World) : Calls Tryd.prog 71 #[.int .u64 x, .int .u64 y] w fun e w' => e = .returned (.int .i64 (-1)) ∧ w = w' := by
  go_enter Tryd.func71, Tryd.ntmps71
  go_wp2_with (go_at_call 92; refine (nan_any _ _).mono ?_; rintro e w' ⟨rfl, rfl⟩)
  go_ret
  exact ⟨rfl, rfl⟩
set_option maxHeartbeats 400000 in
theorem compare_gt (x y : Nat) (h : (y : Int) < x) (w : World) : Calls Tryd.prog 71 #[.int .u64 x, .int .u64 y] w fun e w' => e = .returned (.int .i64 1) ∧ w = w' := by
  have h' : ¬ (x : Int) < y := by omega
  go_enter Tryd.func71, Tryd.ntmps71
  go_wp2_with (go_at_call 92; refine (nan_any _ _).mono ?_; rintro e w' ⟨rfl, rfl⟩)
  go_ret
  exact ⟨rfl, rfl⟩

set_option maxRecDepth 100000 in
set_option maxHeartbeats 1000000 in
theorem cmp_3 (a0 a1 a2 a3 b0 b1 b2 b3 : Nat) (r : Int) (hn : ((a3 : Int) != b3) = true) (w : World)
    (hc : ∀ w, Calls Tryd.prog 71 #[.int .u64 a3, .int .u64 b3] w fun e w' => e = .returned (.int .i64 r) ∧ w = w') :
    Calls Tryd.prog 22 #[.agg #[.int .u64 a0, .int .u64 a1, .int .u64 a2, .int .u64 a3], .agg #[.int .u64 b0, .int .u64 b1, .int .u64 b2, .int .u64 b3]] w fun e w' => e = .returned (.int .i64 r) ∧ Below w.heap.size w w' := by
  go_enter Tryd.func22, Tryd.ntmps22
  go_wp2
  refine wp_loop_rounds 5 ?_
  rw [rounds_succ]; go_wp2; go_region; go_wp2
  go_region_with (go_at_call 71; refine (hc _).mono ?_; rintro e w' ⟨rfl, rfl⟩)
  all_goals (go_wp2; go_ret; exact ⟨rfl, by go_grown⟩)

set_option maxRecDepth 100000 in
set_option maxHeartbeats 1000000 in
theorem cmp_2 (a0 a1 a2 a3 b0 b1 b2 : Nat) (r : Int) (hn : ((a2 : Int) != b2) = true) (w : World)
    (hc : ∀ w, Calls Tryd.prog 71 #[.int .u64 a2, .int .u64 b2] w fun e w' => e = .returned (.int .i64 r) ∧ w = w') :
    Calls Tryd.prog 22 #[.agg #[.int .u64 a0, .int .u64 a1, .int .u64 a2, .int .u64 a3], .agg #[.int .u64 b0, .int .u64 b1, .int .u64 b2, .int .u64 a3]] w fun e w' => e = .returned (.int .i64 r) ∧ Below w.heap.size w w' := by
  go_enter Tryd.func22, Tryd.ntmps22
  go_wp2
  refine wp_loop_rounds 5 ?_
  rw [rounds_succ]; go_wp2; go_region; go_wp2
  rw [rounds_succ]; go_wp2; go_region; go_wp2
  go_region_with (go_at_call 71; refine (hc _).mono ?_; rintro e w' ⟨rfl, rfl⟩)
  all_goals (go_wp2; go_ret; exact ⟨rfl, by go_grown⟩)

set_option maxRecDepth 100000 in
set_option maxHeartbeats 1000000 in
theorem cmp_1 (a0 a1 a2 a3 b0 b1 : Nat) (r : Int) (hn : ((a1 : Int) != b1) = true) (w : World)
    (hc : ∀ w, Calls Tryd.prog 71 #[.int .u64 a1, .int .u64 b1] w fun e w' => e = .returned (.int .i64 r) ∧ w = w') :
    Calls Tryd.prog 22 #[.agg #[.int .u64 a0, .int .u64 a1, .int .u64 a2, .int .u64 a3], .agg #[.int .u64 b0, .int .u64 b1, .int .u64 a2, .int .u64 a3]] w fun e w' => e = .returned (.int .i64 r) ∧ Below w.heap.size w w' := by
  go_enter Tryd.func22, Tryd.ntmps22
  go_wp2
  refine wp_loop_rounds 5 ?_
  rw [rounds_succ]; go_wp2; go_region; go_wp2
  rw [rounds_succ]; go_wp2; go_region; go_wp2
  rw [rounds_succ]; go_wp2; go_region; go_wp2
  go_region_with (go_at_call 71; refine (hc _).mono ?_; rintro e w' ⟨rfl, rfl⟩)
  all_goals (go_wp2; go_ret; exact ⟨rfl, by go_grown⟩)

set_option maxRecDepth 100000 in
set_option maxHeartbeats 1000000 in
theorem cmp_0 (a0 a1 a2 a3 b0 : Nat) (r : Int) (hn : ((a0 : Int) != b0) = true) (w : World)
    (hc : ∀ w, Calls Tryd.prog 71 #[.int .u64 a0, .int .u64 b0] w fun e w' => e = .returned (.int .i64 r) ∧ w = w') :
    Calls Tryd.prog 22 #[.agg #[.int .u64 a0, .int .u64 a1, .int .u64 a2, .int .u64 a3], .agg #[.int .u64 b0, .int .u64 a1, .int .u64 a2, .int .u64 a3]] w fun e w' => e = .returned (.int .i64 r) ∧ Below w.heap.size w w' := by
  go_enter Tryd.func22, Tryd.ntmps22
  go_wp2
  refine wp_loop_rounds 5 ?_
  rw [rounds_succ]; go_wp2; go_region; go_wp2
  rw [rounds_succ]; go_wp2; go_region; go_wp2
  rw [rounds_succ]; go_wp2; go_region; go_wp2
  rw [rounds_succ]; go_wp2; go_region; go_wp2
  go_region_with (go_at_call 71; refine (hc _).mono ?_; rintro e w' ⟨rfl, rfl⟩)
  all_goals (go_wp2; go_ret; exact ⟨rfl, by go_grown⟩)

set_option maxRecDepth 100000 in
set_option maxHeartbeats 1000000 in
theorem cmp_e (a0 a1 a2 a3 : Nat) (w : World) :
    Calls Tryd.prog 22 #[.agg #[.int .u64 a0, .int .u64 a1, .int .u64 a2, .int .u64 a3], .agg #[.int .u64 a0, .int .u64 a1, .int .u64 a2, .int .u64 a3]] w fun e w' => e = .returned (.int .i64 0) ∧ Below w.heap.size w w' := by
  go_enter Tryd.func22, Tryd.ntmps22
  go_wp2
  refine wp_loop_rounds 5 ?_
  iterate 4 (rw [rounds_succ]; go_wp2; go_region; go_wp2)
  rw [rounds_succ]; go_wp2
  go_ret
  exact ⟨rfl, by go_grown⟩

theorem compare_any (x y : Nat) (h : x ≠ y) (w : World) : Calls Tryd.prog 71 #[.int .u64 x, .int .u64 y] w fun e w' => e = .returned (.int .i64 (if x < y then -1 else 1)) ∧ w = w' := by
  by_cases hlt : x < y
  · rw [if_pos hlt]; exact compare_lt x y (by omega) w
  · rw [if_neg hlt]; exact compare_gt x y (by omega) w

/-- The order of two numbers. -/
def ord (x y : Nat) : Int := if x < y then -1 else if y < x then 1 else 0

theorem neB {x y : Nat} (h : x ≠ y) : ((x : Int) != (y : Int)) = true := by rw [bne_iff_ne]; omega

-- WHAT Cmp COMES TO.
theorem cmp_any (x y : Nat) (w : World) :
    Calls Tryd.prog 22 #[wv x, wv y] w fun e w' => e = .returned (.int .i64 (ord (x % 115792089237316195423570985008687907853269984665640564039457584007913129639936) (y % 115792089237316195423570985008687907853269984665640564039457584007913129639936))) ∧ Below w.heap.size w w' := by
  obtain ⟨a0, a1, a2, a3, u0, u1, u2, u3, ea, na⟩ := wv_parts x
  obtain ⟨b0, b1, b2, b3, v0, v1, v2, v3, eb, nb⟩ := wv_parts y
  rw [ea, eb, ← na, ← nb]
  have key : ∀ p q : Nat, p ≠ q → (p < q ↔ n4 a0 a1 a2 a3 < n4 b0 b1 b2 b3) → n4 a0 a1 a2 a3 ≠ n4 b0 b1 b2 b3 → (if p < q then (-1 : Int) else 1) = ord (n4 a0 a1 a2 a3) (n4 b0 b1 b2 b3) := by
    intro p q hpq hi hn
    unfold ord
    by_cases h : p < q
    · rw [if_pos h, if_pos (hi.1 h)]
    · rw [if_neg h, if_neg (fun h' => h (hi.2 h')), if_pos (by have : ¬ n4 a0 a1 a2 a3 < n4 b0 b1 b2 b3 := fun h' => h (hi.2 h'); omega)]
  by_cases h3 : a3 = b3
  · by_cases h2 : a2 = b2
    · by_cases h1 : a1 = b1
      · by_cases h0 : a0 = b0
        · subst h0 h1 h2 h3
          have : ord (n4 a0 a1 a2 a3) (n4 a0 a1 a2 a3) = 0 := by unfold ord; simp
          rw [this]
          exact cmp_e a0 a1 a2 a3 w
        · subst h1 h2 h3
          rw [← key a0 b0 h0 (by unfold n4; omega) (by unfold n4; omega)]
          exact cmp_0 _ _ _ _ _ _ (neB h0) w (compare_any a0 b0 h0)
      · subst h2 h3
        rw [← key a1 b1 h1 (by unfold n4; omega) (by unfold n4; omega)]
        exact cmp_1 _ _ _ _ _ _ _ (neB h1) w (compare_any a1 b1 h1)
    · subst h3
      rw [← key a2 b2 h2 (by unfold n4; omega) (by unfold n4; omega)]
      exact cmp_2 _ _ _ _ _ _ _ _ (neB h2) w (compare_any a2 b2 h2)
  · rw [← key a3 b3 h3 (by unfold n4; omega) (by unfold n4; omega)]
    exact cmp_3 _ _ _ _ _ _ _ _ _ (neB h3) w (compare_any a3 b3 h3)
end Go.Proofs.YthfadinocadhaaaDoor

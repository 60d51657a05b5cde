/- What word.Small, word.steps come to, called with any words in any world. -/
import Derived.Test.YthfadinocadhaaaDoorEq
import Derived.Deep.QuietTactic
import Derived.BigQuiet
namespace Go.Proofs.YthfadinocadhaaaDoor
open Go.RowKit

set_option maxHeartbeats 400000 in
theorem of_exact (n : Nat) (w : World) :
    Calls Tryd.prog 57 #[.int .u64 n] w fun e w' => e = .returned (.agg #[.int .u64 n, .int .u64 0, .int .u64 0, .int .u64 0]) ∧ w.alloc (.cells #[.int .u64 n, .int .u64 0, .int .u64 0, .int .u64 0] 24) = w' := by
  go_enter Tryd.func57, Tryd.ntmps57
  go_wp2
  go_returns
  exact ⟨rfl, rfl⟩

set_option maxRecDepth 100000 in
set_option maxHeartbeats 400000 in
theorem small_yes (a0 : Nat) (w : World) :
    Calls Tryd.prog 52 #[.agg #[.int .u64 a0, .int .u64 0, .int .u64 0, .int .u64 0]] w fun e w' => e = .returned (.tuple #[.int .u64 a0, .bool true]) ∧ Below w.heap.size w w' := by
  have he : ∀ w, (Op.equalIn 10000 24 (.agg #[.int .u64 a0, .int .u64 0, .int .u64 0, .int .u64 0]) (.agg #[.int .u64 a0, .int .u64 0, .int .u64 0, .int .u64 0])).run Tryd.prog w = .ok true w := fun w => by
    have := eqW a0 0 0 0 a0 0 0 0 w
    simpa using this
  go_enter Tryd.func52, Tryd.ntmps52
  go_wp2
  go_region_with (go_at_call 57; refine (of_exact a0 _).mono ?_; rintro e w' ⟨rfl, rfl⟩)
  all_goals go_wp2
  all_goals (go_ret2; exact ⟨rfl, by go_grown⟩)

set_option maxRecDepth 100000 in
set_option maxHeartbeats 400000 in
theorem small_no (a0 a1 a2 a3 : Nat) (h : ¬ (a1 = 0 ∧ a2 = 0 ∧ a3 = 0)) (w : World) :
    Calls Tryd.prog 52 #[.agg #[.int .u64 a0, .int .u64 a1, .int .u64 a2, .int .u64 a3]] w fun e w' => e = .returned (.tuple #[.int .u64 0, .bool false]) ∧ Below w.heap.size w w' := by
  have he : ∀ w, (Op.equalIn 10000 24 (.agg #[.int .u64 a0, .int .u64 a1, .int .u64 a2, .int .u64 a3]) (.agg #[.int .u64 a0, .int .u64 0, .int .u64 0, .int .u64 0])).run Tryd.prog w = .ok false w := fun w => by
    have := eqW a0 a1 a2 a3 a0 0 0 0 w
    have hf : (a0 == a0 && (a1 == 0 && (a2 == 0 && a3 == 0))) = false := by simpa using h
    rw [hf] at this
    exact this
  clear h
  go_enter Tryd.func52, Tryd.ntmps52
  go_wp2
  go_region_with (go_at_call 57; refine (of_exact a0 _).mono ?_; rintro e w' ⟨rfl, rfl⟩)
  all_goals go_wp2
  all_goals (go_ret2; exact ⟨rfl, by go_grown⟩)
end Go.Proofs.YthfadinocadhaaaDoor

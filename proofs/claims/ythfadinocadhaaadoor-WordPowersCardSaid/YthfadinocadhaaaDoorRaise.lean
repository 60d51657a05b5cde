/- What word.raise comes to: the walk. -/
import Derived.Test.YthfadinocadhaaaDoorMuls
namespace Go.Proofs.YthfadinocadhaaaDoor
open Go.RowKit

theorem index8 (v0 v1 v2 v3 v4 v5 v6 v7 : Value) (w : World) :
    (Instr.index 58 (.agg #[v0, v1, v2, v3, v4, v5, v6, v7]) (.int .i64 0)).run Tryd.prog w = .ok v0 w ∧
    (Instr.index 58 (.agg #[v0, v1, v2, v3, v4, v5, v6, v7]) (.int .i64 1)).run Tryd.prog w = .ok v1 w ∧
    (Instr.index 58 (.agg #[v0, v1, v2, v3, v4, v5, v6, v7]) (.int .i64 2)).run Tryd.prog w = .ok v2 w ∧
    (Instr.index 58 (.agg #[v0, v1, v2, v3, v4, v5, v6, v7]) (.int .i64 3)).run Tryd.prog w = .ok v3 w ∧
    (Instr.index 58 (.agg #[v0, v1, v2, v3, v4, v5, v6, v7]) (.int .i64 4)).run Tryd.prog w = .ok v4 w ∧
    (Instr.index 58 (.agg #[v0, v1, v2, v3, v4, v5, v6, v7]) (.int .i64 5)).run Tryd.prog w = .ok v5 w ∧
    (Instr.index 58 (.agg #[v0, v1, v2, v3, v4, v5, v6, v7]) (.int .i64 6)).run Tryd.prog w = .ok v6 w ∧
    (Instr.index 58 (.agg #[v0, v1, v2, v3, v4, v5, v6, v7]) (.int .i64 7)).run Tryd.prog w = .ok v7 w :=
  ⟨by kernel_rfl, by kernel_rfl, by kernel_rfl, by kernel_rfl, by kernel_rfl, by kernel_rfl, by kernel_rfl, by kernel_rfl⟩

set_option maxRecDepth 100000 in
set_option maxHeartbeats 2000000 in
theorem raise_walk (x0 x1 x2 x3 x4 x5 x6 x7 s t : Nat) (h0 : (0 : Int) ≤ s) (h64 : (s : Int) < 64) (ht : 64 - (s : Int) = (t : Int)) (w : World) :
    Calls Tryd.prog 96 #[.agg #[.int .u64 x0, .int .u64 x1, .int .u64 x2, .int .u64 x3, .int .u64 x4, .int .u64 x5, .int .u64 x6, .int .u64 x7], .int .i64 s] w fun e w' =>
      e = .returned (.agg #[.int .u64 (bits .or .u64 (0) (IntKind.u64.wrap ((x0 : Int) * 2 ^ s))), .int .u64 (bits .or .u64 ((x0 : Int) / 2 ^ t) (IntKind.u64.wrap ((x1 : Int) * 2 ^ s))), .int .u64 (bits .or .u64 ((x1 : Int) / 2 ^ t) (IntKind.u64.wrap ((x2 : Int) * 2 ^ s))), .int .u64 (bits .or .u64 ((x2 : Int) / 2 ^ t) (IntKind.u64.wrap ((x3 : Int) * 2 ^ s))), .int .u64 (bits .or .u64 ((x3 : Int) / 2 ^ t) (IntKind.u64.wrap ((x4 : Int) * 2 ^ s))), .int .u64 (bits .or .u64 ((x4 : Int) / 2 ^ t) (IntKind.u64.wrap ((x5 : Int) * 2 ^ s))), .int .u64 (bits .or .u64 ((x5 : Int) / 2 ^ t) (IntKind.u64.wrap ((x6 : Int) * 2 ^ s))), .int .u64 (bits .or .u64 ((x6 : Int) / 2 ^ t) (IntKind.u64.wrap ((x7 : Int) * 2 ^ s))), .int .u64 ((x7 : Int) / 2 ^ t)]) ∧ Below w.heap.size w w' := by
  have i0 : ∀ v0 v1 v2 v3 v4 v5 v6 v7 w, _ := fun v0 v1 v2 v3 v4 v5 v6 v7 w => (index8 v0 v1 v2 v3 v4 v5 v6 v7 w).1
  have i1 : ∀ v0 v1 v2 v3 v4 v5 v6 v7 w, _ := fun v0 v1 v2 v3 v4 v5 v6 v7 w => (index8 v0 v1 v2 v3 v4 v5 v6 v7 w).2.1
  have i2 : ∀ v0 v1 v2 v3 v4 v5 v6 v7 w, _ := fun v0 v1 v2 v3 v4 v5 v6 v7 w => (index8 v0 v1 v2 v3 v4 v5 v6 v7 w).2.2.1
  have i3 : ∀ v0 v1 v2 v3 v4 v5 v6 v7 w, _ := fun v0 v1 v2 v3 v4 v5 v6 v7 w => (index8 v0 v1 v2 v3 v4 v5 v6 v7 w).2.2.2.1
  have i4 : ∀ v0 v1 v2 v3 v4 v5 v6 v7 w, _ := fun v0 v1 v2 v3 v4 v5 v6 v7 w => (index8 v0 v1 v2 v3 v4 v5 v6 v7 w).2.2.2.2.1
  have i5 : ∀ v0 v1 v2 v3 v4 v5 v6 v7 w, _ := fun v0 v1 v2 v3 v4 v5 v6 v7 w => (index8 v0 v1 v2 v3 v4 v5 v6 v7 w).2.2.2.2.2.1
  have i6 : ∀ v0 v1 v2 v3 v4 v5 v6 v7 w, _ := fun v0 v1 v2 v3 v4 v5 v6 v7 w => (index8 v0 v1 v2 v3 v4 v5 v6 v7 w).2.2.2.2.2.2.1
  have i7 : ∀ v0 v1 v2 v3 v4 v5 v6 v7 w, _ := fun v0 v1 v2 v3 v4 v5 v6 v7 w => (index8 v0 v1 v2 v3 v4 v5 v6 v7 w).2.2.2.2.2.2.2
  go_enter Tryd.func96, Tryd.ntmps96
  go_wp2
  refine wp_loop_rounds 9 ?_
  iterate 8 (rw [rounds_succ]; go_wp2; go_region; go_wp2)
  rw [rounds_succ]; go_wp2
  go_returns
  refine ⟨?_, by go_grown⟩
  rfl
end Go.Proofs.YthfadinocadhaaaDoor

/- What word.widen comes to, with no part above, and with one. -/
import Derived.Test.YthfadinocadhaaaDoorMuls
import Derived.Laws.IdiomCopy
import Derived.Laws.CopyRow
namespace Go.Proofs.YthfadinocadhaaaDoor
open Go.RowKit

/-- Four parts copied to the head of eight. -/
theorem copy4 (W : World) (b c : Nat) (a0 a1 a2 a3 : Nat)
    (s0 : W.cell? ⟨c, 0, none⟩ = some (.int .u64 a0)) (s1 : W.cell? ⟨c, 1, none⟩ = some (.int .u64 a1)) (s2 : W.cell? ⟨c, 2, none⟩ = some (.int .u64 a2)) (s3 : W.cell? ⟨c, 3, none⟩ = some (.int .u64 a3))
    (d0 : (W.cell? ⟨b, 0, none⟩).isSome = true) (d1 : (W.cell? ⟨b, 1, none⟩).isSome = true) (d2 : (W.cell? ⟨b, 2, none⟩).isSome = true) (d3 : (W.cell? ⟨b, 3, none⟩).isSome = true)
    (f0 : W.frozen? ⟨b, 0, none⟩ = false) (f1 : W.frozen? ⟨b, 1, none⟩ = false) (f2 : W.frozen? ⟨b, 2, none⟩ = false) (f3 : W.frozen? ⟨b, 3, none⟩ = false) :
    (Builtin.copy_ #[51, 51] 3 #[.slice (some ⟨b, 0, none⟩) 8 8, .slice (some ⟨c, 0, none⟩) 4 4]).run Tryd.prog W =
      .ok (.int .i64 4) ((((W.setCell ⟨b, 0, none⟩ (.int .u64 a0)).setCell ⟨b, 1, none⟩ (.int .u64 a1)).setCell ⟨b, 2, none⟩ (.int .u64 a2)).setCell ⟨b, 3, none⟩ (.int .u64 a3)) := by
  have h := run_copy_cells (P := Tryd.prog) W 51 51 3 22 b 0 8 8 ⟨c, 0, none⟩ 4 4 [.int .u64 a0, .int .u64 a1, .int .u64 a2, .int .u64 a3] Tryd.underlying51 (by kernel_rfl) rfl
    (fun j v hj => by
      rcases j with _ | _ | _ | _ | j
      · cases hj; exact s0
      · cases hj; exact s1
      · cases hj; exact s2
      · cases hj; exact s3
      · simp at hj)
    (fun j hj => by
      rcases j with _ | _ | _ | _ | j
      · exact d0
      · exact d1
      · exact d2
      · exact d3
      · simp at hj; omega)
    (fun j hj => by
      rcases j with _ | _ | _ | _ | j
      · exact f0
      · exact f1
      · exact f2
      · exact f3
      · simp at hj; omega)
    (fun v hv => by simp at hv; rcases hv with rfl | rfl | rfl | rfl <;> rfl)
  exact h

set_option maxRecDepth 100000 in
set_option maxHeartbeats 1000000 in
theorem widen_nil (a0 a1 a2 a3 : Nat) (w : World) :
    Calls Tryd.prog 75 #[.agg #[.int .u64 a0, .int .u64 a1, .int .u64 a2, .int .u64 a3], .slice none 0 0] w fun e w' =>
      e = .returned (.agg #[.int .u64 a0, .int .u64 a1, .int .u64 a2, .int .u64 a3, .int .u64 0, .int .u64 0, .int .u64 0, .int .u64 0]) ∧ Below w.heap.size w w' := by
  have hcp := copy4 ((((w.alloc (.cells #[.int .u64 a0, .int .u64 a1, .int .u64 a2, .int .u64 a3] 24)).alloc (.cells #[.int .u64 0, .int .u64 0, .int .u64 0, .int .u64 0, .int .u64 0, .int .u64 0, .int .u64 0, .int .u64 0] 58)).alloc (.cells #[.int .u64 0, .int .u64 0, .int .u64 0, .int .u64 0, .int .u64 0, .int .u64 0, .int .u64 0, .int .u64 0] 58)).drew) (w.heap.size + 1 + 1) w.heap.size a0 a1 a2 a3
    (by go_cell) (by go_cell) (by go_cell) (by go_cell) (by go_simp) (by go_simp) (by go_simp) (by go_simp) (by go_cell) (by go_cell) (by go_cell) (by go_cell)
  have hcn := fun W : World => run_copy_nil (P := Tryd.prog) W 51 51 3 22 ⟨w.heap.size + 1 + 1, 4, none⟩ 4 4 Tryd.underlying51 (by kernel_rfl)
  go_enter Tryd.func75, Tryd.ntmps75
  go_wp2
  go_region
  go_wp2
  go_returns
  refine ⟨?_, by go_grown⟩
  rfl
end Go.Proofs.YthfadinocadhaaaDoor

/- RIPEMD-160: the reference's places. -/
import Derived.Test.YtnnbpofdnhnjlaaDoorRRef
namespace Go.Proofs.YtnnbpofdnhnjlaaDoor
open Go.RowKit

set_option maxRecDepth 100000 in
theorem place_0 (q k : Nat) (hq : q < 5) (hk : k < 16) (w : World) : Calls Tryd.prog 60 #[.bool false, .int .i64 q, .int .i64 k] w fun e w' => e = .returned (.int .i64 (plc 0 q k : Nat)) ∧ Below w.heap.size w w' := by
  have hk0 : (0 : Int) ≤ k := by omega
  have hk1 : (k : Int) < 16 := by omega
  have hq0 : (0 : Int) ≤ q := by omega
  have hq1 : (q : Int) < 5 := by omega
  have hz : ar .i64 16 (fun j => ((nexT j : Nat) : Int)) = #[.int .i64 7, .int .i64 4, .int .i64 13, .int .i64 1, .int .i64 10, .int .i64 6, .int .i64 15, .int .i64 3, .int .i64 12, .int .i64 0, .int .i64 9, .int .i64 5, .int .i64 2, .int .i64 14, .int .i64 11, .int .i64 8] := by kernel_rfl
  have hal := heap_alloc_new w (.cells (ar .i64 16 (fun j => ((nexT j : Nat) : Int))) 3)
  rw [hz] at hal
  have HZ := Lib.hid hz
  have HA := Lib.hid hal
  clear hz hal
  go_enter Tryd.func60, Tryd.ntmps60
  go_wp2
  go_loopw [7, 9] (fun p i wr => ∃ m : Nat, m ≤ q ∧ i = .int .i64 m ∧ p = .int .i64 (plc 0 m k : Nat) ∧ Hid (wr.heap[w.heap.size]? = some (.cells (ar .i64 16 fun j => (nexT j : Nat)) 3 (0, 0)) ∧ Below w.heap.size w wr)) (fun _ i _ => q - (intOf i).toNat)
  case atStart =>
    refine ⟨0, by omega, rfl, ?_, Lib.hid ⟨?_, by go_grown⟩⟩
    · unfold plc firT
      go_num
    · rw [HZ.out]; exact HA.out
  case round =>
    obtain ⟨m, hm, rfl, rfl, H⟩ := hrel
    have hm0 : (0 : Int) ≤ m := by omega
    by_cases hlt : m < q
    · have hlt' : (m : Int) < q := by omega
      have hp := plc_lt 0 (by omega) m k hk
      have HN : Hid (plc 0 (m + 1) k = nexT (plc 0 m k)) := Lib.hid rfl
      obtain ⟨p, hpe⟩ : ∃ p, plc 0 m k = p := ⟨_, rfl⟩
      rw [hpe] at hp HN ⊢
      clear hpe
      have hp0 : (0 : Int) ≤ p := by omega
      have hp1 : (p : Int) < 16 := by omega
      have cp : wr.cell? ⟨w.heap.size, p, none⟩ = some (.int .i64 (nexT p : Nat)) := (cell_of_row wr _ p _ _ _ H.out.1).trans (ar_at _ _ _ _ hp)
      go_wp2
      go_roundw
      case rel => exact ⟨m + 1, by omega, by go_num, by rw [HN.out], H⟩
      case measure => simp [intOf]; omega
    · obtain rfl : m = q := by omega
      go_wp2
      go_ret
      exact ⟨rfl, H.out.2⟩
set_option maxRecDepth 100000 in
theorem place_1 (q k : Nat) (hq : q < 5) (hk : k < 16) (w : World) : Calls Tryd.prog 60 #[.bool true, .int .i64 q, .int .i64 k] w fun e w' => e = .returned (.int .i64 (plc 1 q k : Nat)) ∧ Below w.heap.size w w' := by
  have hk0 : (0 : Int) ≤ k := by omega
  have hk1 : (k : Int) < 16 := by omega
  have hq0 : (0 : Int) ≤ q := by omega
  have hq1 : (q : Int) < 5 := by omega
  have hz : ar .i64 16 (fun j => ((nexT j : Nat) : Int)) = #[.int .i64 7, .int .i64 4, .int .i64 13, .int .i64 1, .int .i64 10, .int .i64 6, .int .i64 15, .int .i64 3, .int .i64 12, .int .i64 0, .int .i64 9, .int .i64 5, .int .i64 2, .int .i64 14, .int .i64 11, .int .i64 8] := by kernel_rfl
  have hal := heap_alloc_new w (.cells (ar .i64 16 (fun j => ((nexT j : Nat) : Int))) 3)
  rw [hz] at hal
  have HZ := Lib.hid hz
  have HA := Lib.hid hal
  clear hz hal
  go_enter Tryd.func60, Tryd.ntmps60
  go_wp2
  go_loopw [7, 9] (fun p i wr => ∃ m : Nat, m ≤ q ∧ i = .int .i64 m ∧ p = .int .i64 (plc 1 m k : Nat) ∧ Hid (wr.heap[w.heap.size]? = some (.cells (ar .i64 16 fun j => (nexT j : Nat)) 3 (0, 0)) ∧ Below w.heap.size w wr)) (fun _ i _ => q - (intOf i).toNat)
  case atStart =>
    refine ⟨0, by omega, rfl, ?_, Lib.hid ⟨?_, by go_grown⟩⟩
    · unfold plc firT
      go_num
    · rw [HZ.out]; exact HA.out
  case round =>
    obtain ⟨m, hm, rfl, rfl, H⟩ := hrel
    have hm0 : (0 : Int) ≤ m := by omega
    by_cases hlt : m < q
    · have hlt' : (m : Int) < q := by omega
      have hp := plc_lt 1 (by omega) m k hk
      have HN : Hid (plc 1 (m + 1) k = nexT (plc 1 m k)) := Lib.hid rfl
      obtain ⟨p, hpe⟩ : ∃ p, plc 1 m k = p := ⟨_, rfl⟩
      rw [hpe] at hp HN ⊢
      clear hpe
      have hp0 : (0 : Int) ≤ p := by omega
      have hp1 : (p : Int) < 16 := by omega
      have cp : wr.cell? ⟨w.heap.size, p, none⟩ = some (.int .i64 (nexT p : Nat)) := (cell_of_row wr _ p _ _ _ H.out.1).trans (ar_at _ _ _ _ hp)
      go_wp2
      go_roundw
      case rel => exact ⟨m + 1, by omega, by go_num, by rw [HN.out], H⟩
      case measure => simp [intOf]; omega
    · obtain rfl : m = q := by omega
      go_wp2
      go_ret
      exact ⟨rfl, H.out.2⟩
end Go.Proofs.YtnnbpofdnhnjlaaDoor

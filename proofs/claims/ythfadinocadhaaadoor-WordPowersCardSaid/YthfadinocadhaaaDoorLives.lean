/- What word.Decimal says of 42, and that what the statements call to see whether anything is reckoned answers true. -/
import Derived.Test.YthfadinocadhaaaDoorDivSmall
import Derived.Test.YthfadinocadhaaaDoorCmp
namespace Go.Proofs.YthfadinocadhaaaDoor
open Go.RowKit

theorem format42i (w : World) : Calls Tryd.prog 99 #[.int .u64 42, .int .i64 10] w fun e w' => e = .returned (.string ⟨#[52, 50]⟩) ∧ w = w' := by
  have hd : Lib.decDigits 42 = [52, 50] := by decide +kernel
  have hs : ∀ w, Calls Tryd.prog 110 #[.int .i64 42] w fun e w' => e = .returned (.string ⟨#[52, 50]⟩) ∧ w = w' := fun w => (Tryd.internal_strconv_small 42 (by omega) w).mono fun e w' ⟨he, hw⟩ => ⟨by rw [he, hd], hw.symm⟩
  clear hd
  have HS := Lib.hid hs; clear hs
  go_enter Tryd.func99, Tryd.ntmps99
  go_wp2_with fail
  refine (HS.out _).mono ?_
  rintro e w' ⟨rfl, rfl⟩
  go_wp2
  go_ret
  exact ⟨rfl, rfl⟩
theorem format42 (w : World) : Calls Tryd.prog 86 #[.int .u64 42, .int .i64 10] w fun e w' => e = .returned (.string ⟨#[52, 50]⟩) ∧ w = w' := by
  go_enter Tryd.func86, Tryd.ntmps86
  go_wp2_with fail
  refine (format42i _).mono ?_
  rintro e w' ⟨rfl, rfl⟩
  go_wp2
  go_ret
  exact ⟨rfl, rfl⟩

theorem eq_zero4 (w : World) : (Op.equalIn 10000 24 (.agg #[.int .u64 0, .int .u64 0, .int .u64 0, .int .u64 0]) (.agg #[.int .u64 0, .int .u64 0, .int .u64 0, .int .u64 0])).run Tryd.prog w = .ok true w := eqW 0 0 0 0 0 0 0 0 w

set_option maxRecDepth 100000 in
set_option maxHeartbeats 2000000 in
theorem decimal42 (w : World) (hD : ∀ w, Calls Tryd.prog 74 #[.agg #[.int .u64 42, .int .u64 0, .int .u64 0, .int .u64 0, .int .u64 0, .int .u64 0, .int .u64 0, .int .u64 0], .agg #[.int .u64 10000000000000000000, .int .u64 0, .int .u64 0, .int .u64 0]] w fun e w' => e = .returned (.tuple #[.agg #[.int .u64 0, .int .u64 0, .int .u64 0, .int .u64 0, .int .u64 0, .int .u64 0, .int .u64 0, .int .u64 0], .agg #[.int .u64 42, .int .u64 0, .int .u64 0, .int .u64 0]]) ∧ Below w.heap.size w w') :
    Calls Tryd.prog 55 #[.agg #[.int .u64 42, .int .u64 0, .int .u64 0, .int .u64 0]] w fun e w' => e = .returned (.string ⟨#[52, 50]⟩) ∧ Below w.heap.size w w' := by
  have hW : ∀ w, Calls Tryd.prog 75 #[.agg #[.int .u64 42, .int .u64 0, .int .u64 0, .int .u64 0], .slice none 0 0] w fun e w' => e = .returned (.agg #[.int .u64 42, .int .u64 0, .int .u64 0, .int .u64 0, .int .u64 0, .int .u64 0, .int .u64 0, .int .u64 0]) ∧ Below w.heap.size w w' := fun w => widen_nil 42 0 0 0 w
  have hO : ∀ w, Calls Tryd.prog 57 #[.int .u64 10000000000000000000] w fun e w' => e = .returned (.agg #[.int .u64 10000000000000000000, .int .u64 0, .int .u64 0, .int .u64 0]) ∧ Below w.heap.size w w' := fun w => of_walk 10000000000000000000 w
  have hN : ∀ w, Calls Tryd.prog 66 #[.agg #[.int .u64 0, .int .u64 0, .int .u64 0, .int .u64 0, .int .u64 0, .int .u64 0, .int .u64 0, .int .u64 0]] w fun e w' => e = .returned (.agg #[.int .u64 0, .int .u64 0, .int .u64 0, .int .u64 0]) ∧ Below w.heap.size w w' := fun w => narrow_walk 0 0 0 0 0 0 0 0 w
  have HW := Lib.hid hW; clear hW
  have HO := Lib.hid hO; clear hO
  have HN := Lib.hid hN; clear hN
  have HD := Lib.hid hD; clear hD
  have hq := eq_zero4
  go_enter Tryd.func55, Tryd.ntmps55
  go_wp2
  refine wp_loop_rounds 1 ?_
  rw [rounds_succ]
  go_wp2_with fail
  refine (HW.out _).mono ?_
  rintro e w1 ⟨rfl, hb1⟩
  have b1 : Below w.heap.size w w1 := Below.trans (by go_grown) (hb1.mono (by simp))
  have c10 : w1.cell? ⟨w.heap.size, 0, none⟩ = some (.int .u64 42) := (hb1.cell (p := ⟨w.heap.size, 0, none⟩) (by simp)).trans (by go_cell)
  have c11 : w1.cell? ⟨w.heap.size, 1, none⟩ = some (.int .u64 0) := (hb1.cell (p := ⟨w.heap.size, 1, none⟩) (by simp)).trans (by go_cell)
  have c12 : w1.cell? ⟨w.heap.size, 2, none⟩ = some (.int .u64 0) := (hb1.cell (p := ⟨w.heap.size, 2, none⟩) (by simp)).trans (by go_cell)
  have c13 : w1.cell? ⟨w.heap.size, 3, none⟩ = some (.int .u64 0) := (hb1.cell (p := ⟨w.heap.size, 3, none⟩) (by simp)).trans (by go_cell)
  have f10 : w1.frozen? ⟨w.heap.size, 0, none⟩ = false := (hb1.frozen (p := ⟨w.heap.size, 0, none⟩) (by simp)).trans (by go_cell)
  have f11 : w1.frozen? ⟨w.heap.size, 1, none⟩ = false := (hb1.frozen (p := ⟨w.heap.size, 1, none⟩) (by simp)).trans (by go_cell)
  have f12 : w1.frozen? ⟨w.heap.size, 2, none⟩ = false := (hb1.frozen (p := ⟨w.heap.size, 2, none⟩) (by simp)).trans (by go_cell)
  have f13 : w1.frozen? ⟨w.heap.size, 3, none⟩ = false := (hb1.frozen (p := ⟨w.heap.size, 3, none⟩) (by simp)).trans (by go_cell)
  have z1 : w.heap.size < w1.heap.size := by have h := hb1.size; simp at h; omega
  clear hb1
  go_wp2_with fail
  refine (HO.out _).mono ?_
  rintro e w2 ⟨rfl, hb2⟩
  have b2 : Below w.heap.size w w2 := b1.trans (hb2.mono (by omega))
  have c20 := (hb2.cell (p := ⟨w.heap.size, 0, none⟩) z1).trans c10
  have c21 := (hb2.cell (p := ⟨w.heap.size, 1, none⟩) z1).trans c11
  have c22 := (hb2.cell (p := ⟨w.heap.size, 2, none⟩) z1).trans c12
  have c23 := (hb2.cell (p := ⟨w.heap.size, 3, none⟩) z1).trans c13
  have f20 := (hb2.frozen (p := ⟨w.heap.size, 0, none⟩) z1).trans f10
  have f21 := (hb2.frozen (p := ⟨w.heap.size, 1, none⟩) z1).trans f11
  have f22 := (hb2.frozen (p := ⟨w.heap.size, 2, none⟩) z1).trans f12
  have f23 := (hb2.frozen (p := ⟨w.heap.size, 3, none⟩) z1).trans f13
  have z2 := Nat.lt_of_lt_of_le z1 hb2.size
  clear hb2 b1 c10 c11 c12 c13 f10 f11 f12 f13 z1
  go_wp2_with fail
  refine (HD.out _).mono ?_
  rintro e w3 ⟨rfl, hb3⟩
  have b3 : Below w.heap.size w w3 := b2.trans (hb3.mono (by omega))
  have c30 := (hb3.cell (p := ⟨w.heap.size, 0, none⟩) z2).trans c20
  have c31 := (hb3.cell (p := ⟨w.heap.size, 1, none⟩) z2).trans c21
  have c32 := (hb3.cell (p := ⟨w.heap.size, 2, none⟩) z2).trans c22
  have c33 := (hb3.cell (p := ⟨w.heap.size, 3, none⟩) z2).trans c23
  have f30 := (hb3.frozen (p := ⟨w.heap.size, 0, none⟩) z2).trans f20
  have f31 := (hb3.frozen (p := ⟨w.heap.size, 1, none⟩) z2).trans f21
  have f32 := (hb3.frozen (p := ⟨w.heap.size, 2, none⟩) z2).trans f22
  have f33 := (hb3.frozen (p := ⟨w.heap.size, 3, none⟩) z2).trans f23
  have z3 := Nat.lt_of_lt_of_le z2 hb3.size
  clear hb3 b2 c20 c21 c22 c23 f20 f21 f22 f23 z2
  go_wp2_with fail
  refine (format42 _).mono ?_
  rintro e w' ⟨rfl, rfl⟩
  go_wp2_with fail
  refine (HN.out _).mono ?_
  rintro e w4 ⟨rfl, hb4⟩
  have b4 : Below w.heap.size w w4 := Below.trans (by go_grown) (hb4.mono (by simp; omega))
  have c40 : w4.cell? ⟨w.heap.size, 0, none⟩ = some (.int .u64 42) := (hb4.cell (p := ⟨w.heap.size, 0, none⟩) (by simp; omega)).trans (by go_cell)
  have c41 : w4.cell? ⟨w.heap.size, 1, none⟩ = some (.int .u64 0) := (hb4.cell (p := ⟨w.heap.size, 1, none⟩) (by simp; omega)).trans (by go_cell)
  have c42 : w4.cell? ⟨w.heap.size, 2, none⟩ = some (.int .u64 0) := (hb4.cell (p := ⟨w.heap.size, 2, none⟩) (by simp; omega)).trans (by go_cell)
  have c43 : w4.cell? ⟨w.heap.size, 3, none⟩ = some (.int .u64 0) := (hb4.cell (p := ⟨w.heap.size, 3, none⟩) (by simp; omega)).trans (by go_cell)
  have f40 : w4.frozen? ⟨w.heap.size, 0, none⟩ = false := (hb4.frozen (p := ⟨w.heap.size, 0, none⟩) (by simp; omega)).trans (by go_cell)
  have f41 : w4.frozen? ⟨w.heap.size, 1, none⟩ = false := (hb4.frozen (p := ⟨w.heap.size, 1, none⟩) (by simp; omega)).trans (by go_cell)
  have f42 : w4.frozen? ⟨w.heap.size, 2, none⟩ = false := (hb4.frozen (p := ⟨w.heap.size, 2, none⟩) (by simp; omega)).trans (by go_cell)
  have f43 : w4.frozen? ⟨w.heap.size, 3, none⟩ = false := (hb4.frozen (p := ⟨w.heap.size, 3, none⟩) (by simp; omega)).trans (by go_cell)
  clear hb4 b3 c30 c31 c32 c33 f30 f31 f32 f33
  go_wp2
  go_ret
  exact ⟨rfl, by go_grown⟩
end Go.Proofs.YthfadinocadhaaaDoor

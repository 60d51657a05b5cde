/- What cmp.Compare comes to, at int and at uint32. -/
import Derived.Test.YtgegkffigjogcaaNApi
namespace Go.Proofs.Ytgegkffigjogcaa
open Go.RowKit

/-- How two numbers stand. -/
def sgn (x y : Nat) : Int := if x < y then -1 else if y < x then 1 else 0

theorem nan_int (x : Int) (w : World) : Calls Try.prog 71 #[.int .i64 x] w fun e w' => e = .returned (.bool false) ∧ w = w' := by
  have e0 : (x != x) = false := by simp
  go_enter Try.func71, Try.ntmps71
  go_wp2
  go_ret
  exact ⟨by simp, rfl⟩
set_option maxRecDepth 100000 in
theorem compare_int (x y : Nat) (w : World) : Calls Try.prog 56 #[.int .i64 x, .int .i64 y] w fun e w' => e = .returned (.int .i64 (sgn x y)) ∧ w = w' := by
  have N1 := Lib.hid (nan_int (x : Int))
  have N2 := Lib.hid (nan_int (y : Int))
  by_cases h : x < y
  · have h1 : (x : Int) < y := by omega
    have HS : Hid (sgn x y = -1) := Lib.hid (by unfold sgn; rw [if_pos h])
    clear h
    go_enter Try.func56, Try.ntmps56
    go_wp2_with fail
    refine (N1.out _).mono ?_
    rintro e w' ⟨rfl, rfl⟩
    go_wp2_with fail
    refine (N2.out _).mono ?_
    rintro e w' ⟨rfl, rfl⟩
    go_wp2
    go_ret
    exact ⟨by rw [HS.out]; rfl, rfl⟩
  by_cases h2 : y < x
  · have h1 : ¬ (x : Int) < y := by omega
    have h3 : (y : Int) < x := by omega
    have HS : Hid (sgn x y = 1) := Lib.hid (by unfold sgn; rw [if_neg h, if_pos h2])
    clear h h2
    go_enter Try.func56, Try.ntmps56
    go_wp2_with fail
    refine (N1.out _).mono ?_
    rintro e w' ⟨rfl, rfl⟩
    go_wp2_with fail
    refine (N2.out _).mono ?_
    rintro e w' ⟨rfl, rfl⟩
    go_wp2
    go_ret
    exact ⟨by rw [HS.out]; rfl, rfl⟩
  · have h1 : ¬ (x : Int) < y := by omega
    have h3 : ¬ (y : Int) < x := by omega
    have HS : Hid (sgn x y = 0) := Lib.hid (by unfold sgn; rw [if_neg h, if_neg h2])
    clear h h2
    go_enter Try.func56, Try.ntmps56
    go_wp2_with fail
    refine (N1.out _).mono ?_
    rintro e w' ⟨rfl, rfl⟩
    go_wp2_with fail
    refine (N2.out _).mono ?_
    rintro e w' ⟨rfl, rfl⟩
    go_wp2
    go_ret
    exact ⟨by rw [HS.out]; rfl, rfl⟩

theorem nan_u32 (x : Int) (w : World) : Calls Try.prog 72 #[.int .u32 x] w fun e w' => e = .returned (.bool false) ∧ w = w' := by
  have e0 : (x != x) = false := by simp
  go_enter Try.func72, Try.ntmps72
  go_wp2
  go_ret
  exact ⟨by simp, rfl⟩
set_option maxRecDepth 100000 in
theorem compare_u32 (x y : Nat) (w : World) : Calls Try.prog 57 #[.int .u32 x, .int .u32 y] w fun e w' => e = .returned (.int .i64 (sgn x y)) ∧ w = w' := by
  have N1 := Lib.hid (nan_u32 (x : Int))
  have N2 := Lib.hid (nan_u32 (y : Int))
  by_cases h : x < y
  · have h1 : (x : Int) < y := by omega
    have HS : Hid (sgn x y = -1) := Lib.hid (by unfold sgn; rw [if_pos h])
    clear h
    go_enter Try.func57, Try.ntmps57
    go_wp2_with fail
    refine (N1.out _).mono ?_
    rintro e w' ⟨rfl, rfl⟩
    go_wp2_with fail
    refine (N2.out _).mono ?_
    rintro e w' ⟨rfl, rfl⟩
    go_wp2
    go_ret
    exact ⟨by rw [HS.out]; rfl, rfl⟩
  by_cases h2 : y < x
  · have h1 : ¬ (x : Int) < y := by omega
    have h3 : (y : Int) < x := by omega
    have HS : Hid (sgn x y = 1) := Lib.hid (by unfold sgn; rw [if_neg h, if_pos h2])
    clear h h2
    go_enter Try.func57, Try.ntmps57
    go_wp2_with fail
    refine (N1.out _).mono ?_
    rintro e w' ⟨rfl, rfl⟩
    go_wp2_with fail
    refine (N2.out _).mono ?_
    rintro e w' ⟨rfl, rfl⟩
    go_wp2
    go_ret
    exact ⟨by rw [HS.out]; rfl, rfl⟩
  · have h1 : ¬ (x : Int) < y := by omega
    have h3 : ¬ (y : Int) < x := by omega
    have HS : Hid (sgn x y = 0) := Lib.hid (by unfold sgn; rw [if_neg h, if_neg h2])
    clear h h2
    go_enter Try.func57, Try.ntmps57
    go_wp2_with fail
    refine (N1.out _).mono ?_
    rintro e w' ⟨rfl, rfl⟩
    go_wp2_with fail
    refine (N2.out _).mono ?_
    rintro e w' ⟨rfl, rfl⟩
    go_wp2
    go_ret
    exact ⟨by rw [HS.out]; rfl, rfl⟩
end Go.Proofs.Ytgegkffigjogcaa

/- What word.mulAdd comes to, called with any four parts in any world: the low and the high part of the product and both more. -/
import Derived.Test.YthfadinocadhaaaDoorShelf
import Derived.Test.YthfadinocadhaaaDoorAdd
namespace Go.Proofs.YthfadinocadhaaaDoor
open Go.RowKit

/-- A part of a word's value at a known place. -/
theorem index4_0 (v0 v1 v2 v3 : Value) (w : World) : (Instr.index 24 (.agg #[v0, v1, v2, v3]) (.int .i64 0)).run Tryd.prog w = .ok v0 w := by kernel_rfl
theorem index4_1 (v0 v1 v2 v3 : Value) (w : World) : (Instr.index 24 (.agg #[v0, v1, v2, v3]) (.int .i64 1)).run Tryd.prog w = .ok v1 w := by kernel_rfl
theorem index4_2 (v0 v1 v2 v3 : Value) (w : World) : (Instr.index 24 (.agg #[v0, v1, v2, v3]) (.int .i64 2)).run Tryd.prog w = .ok v2 w := by kernel_rfl
theorem index4_3 (v0 v1 v2 v3 : Value) (w : World) : (Instr.index 24 (.agg #[v0, v1, v2, v3]) (.int .i64 3)).run Tryd.prog w = .ok v3 w := by kernel_rfl

theorem mul64_ex (x y : Nat) (hx : x < 18446744073709551616) (hy : y < 18446744073709551616) :
    ∃ h l : Nat, h < 18446744073709551615 ∧ l < 18446744073709551616 ∧ l + 18446744073709551616 * h = x * y ∧
     ∀ w, Calls Tryd.prog 106 #[.int .u64 x, .int .u64 y] w fun e w' => e = .returned (.tuple #[.int .u64 h, .int .u64 l]) ∧ w = w' := by
  have hm : x * y ≤ 18446744073709551615 * 18446744073709551615 := Nat.mul_le_mul (by omega) (by omega)
  refine ⟨x * y / 18446744073709551616, x * y % 18446744073709551616, by omega, by omega, by omega, fun w => (Tryd.bits_Mul64 x y hx hy w).mono fun e w' ⟨he, hw⟩ => ⟨he, hw.symm⟩⟩

set_option maxHeartbeats 400000 in
theorem mulAdd_walk (x y m c h l s0 d0 s1 d1 : Nat) (w : World)
    (hM : ∀ w, Calls Tryd.prog 106 #[.int .u64 x, .int .u64 y] w fun e w' => e = .returned (.tuple #[.int .u64 h, .int .u64 l]) ∧ w = w')
    (h0 : ∀ w, (callFunc 90 #[.int .u64 l, .int .u64 m, .int .u64 0]).run Tryd.prog w = .ok (.value (.tuple #[.int .u64 s0, .int .u64 d0])) w)
    (h1 : ∀ w, (callFunc 90 #[.int .u64 s0, .int .u64 c, .int .u64 0]).run Tryd.prog w = .ok (.value (.tuple #[.int .u64 s1, .int .u64 d1])) w)
    (b1 : (h : Int) + d0 ≤ 18446744073709551615) (b2 : (h : Int) + d0 + d1 ≤ 18446744073709551615) :
    Calls Tryd.prog 91 #[.int .u64 x, .int .u64 y, .int .u64 m, .int .u64 c] w fun e w' => e = .returned (.tuple #[.int .u64 s1, .int .u64 ((h + d0 + d1 : Nat) : Int)]) ∧ w = w' := by
  go_enter Tryd.func91, Tryd.ntmps91
  go_wp2_with fail
  refine (hM _).mono ?_
  rintro e w' ⟨rfl, rfl⟩
  go_wp2
  go_ret2
  exact ⟨by simp, rfl⟩

/-- WHAT mulAdd COMES TO. -/
theorem mulAdd_ex (x y m c : Nat) (hx : x < 18446744073709551616) (hy : y < 18446744073709551616) (hm : m < 18446744073709551616) (hc : c < 18446744073709551616) :
    ∃ l h : Nat, l < 18446744073709551616 ∧ h < 18446744073709551616 ∧ l + 18446744073709551616 * h = x * y + m + c ∧
      ∀ w, Calls Tryd.prog 91 #[.int .u64 x, .int .u64 y, .int .u64 m, .int .u64 c] w fun e w' => e = .returned (.tuple #[.int .u64 l, .int .u64 h]) ∧ w = w' := by
  obtain ⟨h, l, lh, ll, e, hM⟩ := mul64_ex x y hx hy
  obtain ⟨s0, d0, k0, l0, e0, h0⟩ := add64_ex0 l m ll hm
  obtain ⟨s1, d1, k1, l1, e1, h1⟩ := add64_ex0 s0 c l0 hc
  have hb : x * y ≤ 18446744073709551615 * 18446744073709551615 := Nat.mul_le_mul (by omega) (by omega)
  have ht : s1 + 18446744073709551616 * (h + d0 + d1) = x * y + m + c := by omega
  have hh : h + d0 + d1 < 18446744073709551616 := by omega
  exact ⟨s1, h + d0 + d1, l1, hh, ht, fun w => mulAdd_walk x y m c h l s0 d0 s1 d1 w hM h0 h1 (by omega) (by omega)⟩
end Go.Proofs.YthfadinocadhaaaDoor

/- BLAKE2b: a number turned down: what blake.down and the reference's down come to. -/
import Derived.Test.YtoeomlmnejhgpaaDoorRArr
import Derived.Lib.Hide
namespace Go.Proofs.YtoeomlmnejhgpaaDoor
open Go.RowKit

theorem or_comm64 (a b : Int) : bits .or .u64 a b = bits .or .u64 b a := by
  unfold bits
  simp [BitVec.or_comm]
/-- x turned down by s. -/
def rdn (s : Nat) (x : Int) : Int := bits .or .u64 (x / 2 ^ s) (x * 2 ^ (64 - s) % 18446744073709551616)
set_option maxRecDepth 100000 in
theorem rot64_32 (x : Int) (w : World) : Calls Tryd.prog 93 #[.int .u64 x, .int .i64 (-32)] w fun e w' => e = .returned (.int .u64 (rdn 32 x)) ∧ w' = w := by
  have ha : bits .and .u64 18446744073709551584 63 = 32 := by kernel_rfl
  have hw : IntKind.u64.wrap (-32) = 18446744073709551584 := by kernel_rfl
  go_enter Tryd.func93, Tryd.ntmps93
  go_wp2
  go_ret
  unfold rdn
  rw [or_comm64]
  exact ⟨rfl, rfl⟩
set_option maxRecDepth 100000 in
theorem bdown_32 (x : Int) (w : World) : Calls Tryd.prog 97 #[.int .u64 x, .int .i64 32] w fun e w' => e = .returned (.int .u64 (rdn 32 x)) ∧ w' = w := by
  have HR := Lib.hid (rot64_32 x)
  go_enter Tryd.func97, Tryd.ntmps97
  go_wp2_with fail
  refine (HR.out _).mono ?_
  rintro e w' ⟨rfl, rfl⟩
  go_wp2
  go_ret
  exact ⟨rfl, rfl⟩
set_option maxRecDepth 100000 in
theorem rdown_32 (x : Int) (w : World) : Calls Tryd.prog 90 #[.int .u64 x, .int .i64 32] w fun e w' => e = .returned (.int .u64 (rdn 32 x)) ∧ w' = w := by
  go_enter Tryd.func90, Tryd.ntmps90
  go_wp2
  go_ret
  exact ⟨rfl, rfl⟩
set_option maxRecDepth 100000 in
theorem rot64_24 (x : Int) (w : World) : Calls Tryd.prog 93 #[.int .u64 x, .int .i64 (-24)] w fun e w' => e = .returned (.int .u64 (rdn 24 x)) ∧ w' = w := by
  have ha : bits .and .u64 18446744073709551592 63 = 40 := by kernel_rfl
  have hw : IntKind.u64.wrap (-24) = 18446744073709551592 := by kernel_rfl
  go_enter Tryd.func93, Tryd.ntmps93
  go_wp2
  go_ret
  unfold rdn
  rw [or_comm64]
  exact ⟨rfl, rfl⟩
set_option maxRecDepth 100000 in
theorem bdown_24 (x : Int) (w : World) : Calls Tryd.prog 97 #[.int .u64 x, .int .i64 24] w fun e w' => e = .returned (.int .u64 (rdn 24 x)) ∧ w' = w := by
  have HR := Lib.hid (rot64_24 x)
  go_enter Tryd.func97, Tryd.ntmps97
  go_wp2_with fail
  refine (HR.out _).mono ?_
  rintro e w' ⟨rfl, rfl⟩
  go_wp2
  go_ret
  exact ⟨rfl, rfl⟩
set_option maxRecDepth 100000 in
theorem rdown_24 (x : Int) (w : World) : Calls Tryd.prog 90 #[.int .u64 x, .int .i64 24] w fun e w' => e = .returned (.int .u64 (rdn 24 x)) ∧ w' = w := by
  go_enter Tryd.func90, Tryd.ntmps90
  go_wp2
  go_ret
  exact ⟨rfl, rfl⟩
set_option maxRecDepth 100000 in
theorem rot64_16 (x : Int) (w : World) : Calls Tryd.prog 93 #[.int .u64 x, .int .i64 (-16)] w fun e w' => e = .returned (.int .u64 (rdn 16 x)) ∧ w' = w := by
  have ha : bits .and .u64 18446744073709551600 63 = 48 := by kernel_rfl
  have hw : IntKind.u64.wrap (-16) = 18446744073709551600 := by kernel_rfl
  go_enter Tryd.func93, Tryd.ntmps93
  go_wp2
  go_ret
  unfold rdn
  rw [or_comm64]
  exact ⟨rfl, rfl⟩
set_option maxRecDepth 100000 in
theorem bdown_16 (x : Int) (w : World) : Calls Tryd.prog 97 #[.int .u64 x, .int .i64 16] w fun e w' => e = .returned (.int .u64 (rdn 16 x)) ∧ w' = w := by
  have HR := Lib.hid (rot64_16 x)
  go_enter Tryd.func97, Tryd.ntmps97
  go_wp2_with fail
  refine (HR.out _).mono ?_
  rintro e w' ⟨rfl, rfl⟩
  go_wp2
  go_ret
  exact ⟨rfl, rfl⟩
set_option maxRecDepth 100000 in
theorem rdown_16 (x : Int) (w : World) : Calls Tryd.prog 90 #[.int .u64 x, .int .i64 16] w fun e w' => e = .returned (.int .u64 (rdn 16 x)) ∧ w' = w := by
  go_enter Tryd.func90, Tryd.ntmps90
  go_wp2
  go_ret
  exact ⟨rfl, rfl⟩
set_option maxRecDepth 100000 in
theorem rot64_63 (x : Int) (w : World) : Calls Tryd.prog 93 #[.int .u64 x, .int .i64 (-63)] w fun e w' => e = .returned (.int .u64 (rdn 63 x)) ∧ w' = w := by
  have ha : bits .and .u64 18446744073709551553 63 = 1 := by kernel_rfl
  have hw : IntKind.u64.wrap (-63) = 18446744073709551553 := by kernel_rfl
  go_enter Tryd.func93, Tryd.ntmps93
  go_wp2
  go_ret
  unfold rdn
  rw [or_comm64]
  exact ⟨rfl, rfl⟩
set_option maxRecDepth 100000 in
theorem bdown_63 (x : Int) (w : World) : Calls Tryd.prog 97 #[.int .u64 x, .int .i64 63] w fun e w' => e = .returned (.int .u64 (rdn 63 x)) ∧ w' = w := by
  have HR := Lib.hid (rot64_63 x)
  go_enter Tryd.func97, Tryd.ntmps97
  go_wp2_with fail
  refine (HR.out _).mono ?_
  rintro e w' ⟨rfl, rfl⟩
  go_wp2
  go_ret
  exact ⟨rfl, rfl⟩
set_option maxRecDepth 100000 in
theorem rdown_63 (x : Int) (w : World) : Calls Tryd.prog 90 #[.int .u64 x, .int .i64 63] w fun e w' => e = .returned (.int .u64 (rdn 63 x)) ∧ w' = w := by
  go_enter Tryd.func90, Tryd.ntmps90
  go_wp2
  go_ret
  exact ⟨rfl, rfl⟩
end Go.Proofs.YtoeomlmnejhgpaaDoor

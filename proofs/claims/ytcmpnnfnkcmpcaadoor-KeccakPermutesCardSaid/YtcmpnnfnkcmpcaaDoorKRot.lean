/- A number of 64 bits turned up: what bits.RotateLeft64 comes to at any turn. -/
import Derived.Test.YtcmpnnfnkcmpcaaDoorRArr
import Derived.Lib.Hide
namespace Go.Proofs.YtcmpnnfnkcmpcaaDoor
open Go.RowKit

/-- x turned up by k. -/
def rul (k : Nat) (x : Int) : Int := bits .or .u64 (x * 2 ^ (k % 64) % 18446744073709551616) (x / 2 ^ (64 - k % 64))
theorem and63 (k : Nat) (hk : k < 4294967296) : bits .and .u64 (k : Int) 63 = ((k % 64 : Nat) : Int) := by
  have h1 : (BitVec.ofInt 64 (k : Int)).toNat = k := by
    rw [BitVec.ofInt_natCast, BitVec.toNat_ofNat]; exact Nat.mod_eq_of_lt (by omega)
  have h2 : (BitVec.ofInt 64 (63 : Int)).toNat = 63 := by decide +kernel
  show IntKind.u64.wrap ((BitVec.ofInt 64 (k : Int) &&& BitVec.ofInt 64 (63 : Int)).toNat : Int) = _
  rw [BitVec.toNat_and, h1, h2, IntKind.wrap_u64, show (63 : Nat) = 2 ^ 6 - 1 from rfl, Nat.and_two_pow_sub_one_eq_mod]
  omega
set_option maxRecDepth 100000 in
theorem rotl (k : Nat) (hk : k < 4294967296) (x : Int) (w : World) : Calls Tryd.prog 50 #[.int .u64 x, .int .i64 k] w fun e w' => e = .returned (.int .u64 (rul k x)) ∧ w' = w := by
  have ha := and63 k hk
  have hw : IntKind.u64.wrap (k : Int) = k := by rw [IntKind.wrap_u64]; omega
  have hm : k % 64 < 64 := Nat.mod_lt _ (by decide)
  unfold rul
  obtain ⟨s, hs⟩ : ∃ s, k % 64 = s := ⟨_, rfl⟩
  rw [hs] at ha hm ⊢
  have hq : IntKind.u64.wrap (64 - (s : Int)) = ((64 - s : Nat) : Int) := by rw [IntKind.wrap_u64]; omega
  go_enter Tryd.func50, Tryd.ntmps50
  go_wp2
  rw [IntKind.wrap_u64]
  go_ret
  exact ⟨rfl, rfl⟩
end Go.Proofs.YtcmpnnfnkcmpcaaDoor

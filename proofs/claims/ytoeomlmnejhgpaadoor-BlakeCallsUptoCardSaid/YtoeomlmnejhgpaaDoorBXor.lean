/- BLAKE2b: xor goes either way. -/
import Derived.Test.YtoeomlmnejhgpaaDoorBRow
namespace Go.Proofs.YtoeomlmnejhgpaaDoor
open Go.RowKit
theorem nat_of_wrap (x : Nat) (hx : x < 2 ^ 64) : (IntKind.u64.wrap (x : Int) % 2 ^ 64).toNat = x := by
  rw [IntKind.wrap_u64]
  omega
theorem toNat_lt64 (a : Int) : (a % 2 ^ 64).toNat < 2 ^ 64 := by omega
theorem bits_xor64 (a b : Int) : bits .xor .u64 a b = IntKind.u64.wrap (((a % 2 ^ 64).toNat ^^^ (b % 2 ^ 64).toNat : Nat) : Int) := by
  unfold bits
  simp
  rfl
theorem xor_assoc64 (a b c : Int) : bits .xor .u64 (bits .xor .u64 a b) c = bits .xor .u64 a (bits .xor .u64 b c) := by
  rw [bits_xor64 (bits .xor .u64 a b) c, bits_xor64 a (bits .xor .u64 b c), bits_xor64 a b, bits_xor64 b c]
  rw [nat_of_wrap _ (Nat.xor_lt_two_pow (toNat_lt64 a) (toNat_lt64 b)), nat_of_wrap _ (Nat.xor_lt_two_pow (toNat_lt64 b) (toNat_lt64 c)), Nat.xor_assoc]
/-- What the reference's F answers is what the program's does. -/
theorem bfi_ref (h v : Nat → Int) (i : Nat) : bits .xor .u64 (bits .xor .u64 (h i) (v i)) (v (8 + i)) = bfi h v i := by
  unfold bfi
  rw [xor_assoc64, Nat.add_comm]
/-- A round by the reference: eight mixes, by k. -/
theorem rnd_mixes (v m : Nat → Int) : rnd v m = mxv (mxv (mxv (mxv (mxv (mxv (mxv (mxv v 0 4 8 12 (m 0) (m 1)) 1 5 9 13 (m 2) (m 3)) 2 6 10 14 (m 4) (m 5)) 3 7 11 15 (m 6) (m 7)) 0 5 10 15 (m 8) (m 9)) 1 6 11 12 (m 10) (m 11)) 2 7 8 13 (m 12) (m 13)) 3 4 9 14 (m 14) (m 15) := rfl
end Go.Proofs.YtoeomlmnejhgpaaDoor

/- The permutation bit by bit: the bits of a number of 64, of two laid over each other, of one turned up, of one that another masks. -/
import Derived.Test.YtcmpnnfnkcmpcaaDoorKRot
namespace Go.Proofs.YtcmpnnfnkcmpcaaDoor
open Go.RowKit

/-- The bit z of a number of 64. -/
def bi (a : Int) (z : Nat) : Bool := (a % 18446744073709551616).toNat.testBit z
theorem kwrap (x : Nat) (hx : x < 2 ^ 64) : (IntKind.u64.wrap (x : Int) % 18446744073709551616).toNat = x := by
  rw [IntKind.wrap_u64]
  omega
theorem klt (a : Int) : (a % 18446744073709551616).toNat < 2 ^ 64 := by omega
theorem kxor (a b : Int) : bits .xor .u64 a b = IntKind.u64.wrap (((a % 18446744073709551616).toNat ^^^ (b % 18446744073709551616).toNat : Nat) : Int) := by
  unfold bits
  simp
  rfl
theorem kor (a b : Int) : bits .or .u64 a b = IntKind.u64.wrap (((a % 18446744073709551616).toNat ||| (b % 18446744073709551616).toNat : Nat) : Int) := by
  unfold bits
  simp
  rfl
theorem bi_xor (a b : Int) (z : Nat) : bi (bits .xor .u64 a b) z = (bi a z ^^ bi b z) := by
  unfold bi
  rw [kxor, kwrap _ (Nat.xor_lt_two_pow (klt a) (klt b)), Nat.testBit_xor]
theorem bi_or (a b : Int) (z : Nat) : bi (bits .or .u64 a b) z = (bi a z || bi b z) := by
  unfold bi
  rw [kor, kwrap _ (Nat.or_lt_two_pow (klt a) (klt b)), Nat.testBit_or]
theorem bi_nat (x : Nat) (hx : x < 18446744073709551616) (z : Nat) : bi (x : Int) z = x.testBit z := by
  unfold bi
  rw [show ((x : Int) % 18446744073709551616).toNat = x by omega]
theorem bi_big (a : Int) (z : Nat) (hz : 64 ≤ z) : bi a z = false := by
  unfold bi
  exact Nat.testBit_lt_two_pow (Nat.lt_of_lt_of_le (klt a) (Nat.pow_le_pow_right (by decide) hz))
/-- The bits of a number turned up. -/
theorem bi_rul (k X z : Nat) (hX : X < 18446744073709551616) (hz : z < 64) : bi (rul k (X : Int)) z = bi (X : Int) ((z + (64 - k % 64)) % 64) := by
  unfold rul
  have hm : k % 64 < 64 := Nat.mod_lt _ (by decide)
  obtain ⟨s, hs⟩ : ∃ s, k % 64 = s := ⟨_, rfl⟩
  rw [hs] at hm ⊢
  have e1 : ((X : Int) * 2 ^ s % 18446744073709551616) = ((X * 2 ^ s % 2 ^ 64 : Nat) : Int) := by
    rw [Int.natCast_emod, Int.natCast_mul, Int.natCast_pow]; rfl
  have e2 : ((X : Int) / 2 ^ (64 - s)) = ((X / 2 ^ (64 - s) : Nat) : Int) := by
    rw [Int.natCast_ediv, Int.natCast_pow]; rfl
  have l2 : X / 2 ^ (64 - s) < 18446744073709551616 := Nat.lt_of_le_of_lt (Nat.div_le_self _ _) hX
  rw [e1, e2, bi_or, bi_nat _ (Nat.mod_lt _ (by decide)), bi_nat _ l2, bi_nat _ hX, show (18446744073709551616 : Nat) = 2 ^ 64 from rfl, Nat.testBit_mod_two_pow, Nat.testBit_mul_two_pow, Nat.testBit_div_two_pow]
  by_cases h : s ≤ z
  · have h0 : X.testBit (64 - s + z) = false := Nat.testBit_lt_two_pow (Nat.lt_of_lt_of_le hX (by rw [show (18446744073709551616 : Nat) = 2 ^ 64 from rfl]; exact Nat.pow_le_pow_right (by decide) (by omega)))
    rw [Nat.add_comm z (64 - s)] at *
    have h3 : (64 - s + z) % 64 = z - s := by omega
    simp [h, hz, h3, h0]
  · have h3 : (z + (64 - s)) % 64 = z + (64 - s) := by omega
    simp [h, h3]
end Go.Proofs.YtcmpnnfnkcmpcaaDoor

/- The permutation's first step is one-to-one. -/
import Derived.Test.YtcmpnnfnkcmpcaaDoorKBit
import Derived.Test.YtcmpnnfnkcmpcaaDoorKMix
import Derived.Test.YtcmpnnfnkcmpcaaDoorKInj
namespace Go.Proofs.YtcmpnnfnkcmpcaaDoor
open Go.RowKit

theorem kxor_nat (a b : Int) : ∃ X : Nat, X < 18446744073709551616 ∧ bits .xor .u64 a b = (X : Int) := by
  rw [kxor, IntKind.wrap_u64]
  exact ⟨((((a % 18446744073709551616).toNat ^^^ (b % 18446744073709551616).toNat : Nat) : Int) % 18446744073709551616).toNat, by omega, by omega⟩
theorem bi_up1 (a b : Int) (z : Nat) : bi (rul 1 (bits .xor .u64 a b)) ((z + 1) % 64) = bi (bits .xor .u64 a b) (z % 64) := by
  obtain ⟨X, hX, e⟩ := kxor_nat a b
  rw [e, bi_rul 1 X _ hX (Nat.mod_lt _ (by decide)), show ((z + 1) % 64 + (64 - 1 % 64)) % 64 = z % 64 by omega]
theorem bi_kcl (v : Nat → Int) (x z : Nat) : bi (kcl v x) z = (bi (v x) z ^^ bi (v (x + 5)) z ^^ bi (v (x + 10)) z ^^ bi (v (x + 15)) z ^^ bi (v (x + 20)) z) := by
  unfold kcl
  simp only [bi_xor]
theorem bi_kth (v : Nat → Int) (x y z : Nat) (hy : y < 5) : bi (kth v ((x + 1) % 5 + 5 * y)) ((z + 1) % 64) = (bi (v ((x + 1) % 5 + 5 * y)) ((z + 1) % 64) ^^ (bi (kcl v (x % 5)) ((z + 1) % 64) ^^ bi (kcl v ((x + 2) % 5)) (z % 64))) := by
  have hx : (x + 1) % 5 < 5 := Nat.mod_lt _ (by decide)
  unfold kth
  rw [if_pos (by omega), bi_xor, show ((x + 1) % 5 + 5 * y) % 5 = (x + 1) % 5 by omega]
  unfold kds
  rw [bi_xor, show ((x + 1) % 5 + 4) % 5 = x % 5 by omega, show ((x + 1) % 5 + 1) % 5 = (x + 2) % 5 by omega]
  congr 2
  exact bi_up1 _ _ _
theorem xor10 : ∀ a b c d e a' b' c' d' e' : Bool, ((a ^^ a') ^^ (b ^^ b') ^^ (c ^^ c') ^^ (d ^^ d') ^^ (e ^^ e')) = ((a ^^ b ^^ c ^^ d ^^ e) ^^ (a' ^^ b' ^^ c' ^^ d' ^^ e')) := by decide +kernel
theorem xor6 : ∀ a p q a' p' q' : Bool, (a ^^ (p ^^ q)) = (a' ^^ (p' ^^ q')) → (a ^^ a') = ((p ^^ p') ^^ (q ^^ q')) := by decide +kernel
theorem bi_inj {a b : Int} (ha : 0 ≤ a ∧ a < 18446744073709551616) (hb : 0 ≤ b ∧ b < 18446744073709551616) (h : ∀ z, z < 64 → bi a z = bi b z) : a = b := by
  have e : (a % 18446744073709551616).toNat = (b % 18446744073709551616).toNat := Nat.eq_of_testBit_eq fun z => by
    by_cases hz : z < 64
    · exact h z hz
    · exact (bi_big a z (by omega)).trans (bi_big b z (by omega)).symm
  omega
theorem bi_kcl2 (v u : Nat → Int) (x z : Nat) : (bi (kcl v x) z ^^ bi (kcl u x) z) = ((bi (v x) z ^^ bi (u x) z) ^^ (bi (v (x + 5)) z ^^ bi (u (x + 5)) z) ^^ (bi (v (x + 10)) z ^^ bi (u (x + 10)) z) ^^ (bi (v (x + 15)) z ^^ bi (u (x + 15)) z) ^^ (bi (v (x + 20)) z ^^ bi (u (x + 20)) z)) := by
  rw [bi_kcl, bi_kcl]
  exact (xor10 _ _ _ _ _ _ _ _ _ _).symm
/-- THE FIRST STEP IS ONE-TO-ONE. -/
theorem kth_inj {v u : Nat → Int} (hv : ∀ i, i < 25 → 0 ≤ v i ∧ v i < 18446744073709551616) (hu : ∀ i, i < 25 → 0 ≤ u i ∧ u i < 18446744073709551616) (h : ∀ i, i < 25 → kth v i = kth u i) : ∀ i, i < 25 → v i = u i := by
  have H := theta_zero (D := fun x y z => bi (v (x % 5 + 5 * y)) (z % 64) ^^ bi (u (x % 5 + 5 * y)) (z % 64)) (fun x y z => by simp only [Nat.add_mod_right]) (fun x y z => by simp only [Nat.add_mod_right]) (fun x y z hy => by
    have hx : (x + 1) % 5 < 5 := Nat.mod_lt _ (by decide)
    have e := congrArg (fun a => bi a ((z + 1) % 64)) (h ((x + 1) % 5 + 5 * y) (by omega))
    simp only [bi_kth _ _ _ _ hy] at e
    have e2 := xor6 _ _ _ _ _ _ e
    exact e2.trans (congr (congrArg Bool.xor (bi_kcl2 v u (x % 5) ((z + 1) % 64))) (bi_kcl2 v u ((x + 2) % 5) (z % 64))))
  intro i hi
  refine bi_inj (hv i hi) (hu i hi) fun z hz => ?_
  have e := H (i % 5) (i / 5) z (by omega)
  simp only [Nat.mod_mod, show i % 5 + 5 * (i / 5) = i by omega, Nat.mod_eq_of_lt hz] at e
  cases h1 : bi (v i) z <;> cases h2 : bi (u i) z <;> simp [h1, h2] at e ⊢
end Go.Proofs.YtcmpnnfnkcmpcaaDoor

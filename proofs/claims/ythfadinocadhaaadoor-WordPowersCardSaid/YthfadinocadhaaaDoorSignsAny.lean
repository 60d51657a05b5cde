/- bailiwicklaw01.WordSigns answers true, called with any two words in any world. -/
import Derived.Test.YthfadinocadhaaaDoorSigns
import Derived.Test.YthfadinocadhaaaDoorRings
namespace Go.Proofs.YthfadinocadhaaaDoor
open Go.RowKit

theorem neg_any (x : Nat) (o1 o2 : Operand) (w : World) : (eqGuard BinOp.neq 24 o1 o2 (wv x) (wv x)).run Tryd.prog w = .ok () w := by kernel_rfl
theorem neb_any (x : Nat) (w : World) : (binOp BinOp.neq 24 (wv x) (wv x)).run Tryd.prog w = .ok (.bool false) w := by
  obtain ⟨x0, x1, x2, x3, -, -, -, -, ex, -⟩ := wv_parts x
  rw [ex]
  have h : ∀ w, (Op.equalIn 10000 24 (.agg #[.int .u64 x0, .int .u64 x1, .int .u64 x2, .int .u64 x3]) (.agg #[.int .u64 x0, .int .u64 x1, .int .u64 x2, .int .u64 x3])).run Tryd.prog w = .ok true w := fun w => by
    have := eqW x0 x1 x2 x3 x0 x1 x2 x3 w
    simpa using this
  go_simp

/-- What was shifted down again, shifted up, is what it was. -/
theorem sar_back (x s : Nat) (hs : s ≤ 255) : sarN s (x * 2 ^ s % 115792089237316195423570985008687907853269984665640564039457584007913129639936) * 2 ^ s % 115792089237316195423570985008687907853269984665640564039457584007913129639936 = x * 2 ^ s % 115792089237316195423570985008687907853269984665640564039457584007913129639936 := by
  have hW : 115792089237316195423570985008687907853269984665640564039457584007913129639936 = 2 ^ s * 2 ^ (256 - s) := by rw [← Nat.pow_add, show s + (256 - s) = 256 by omega]
  have hP : 0 < 2 ^ s := Nat.two_pow_pos s
  have hQ : 0 < 2 ^ (256 - s) := Nat.two_pow_pos _
  have hy : x * 2 ^ s % 115792089237316195423570985008687907853269984665640564039457584007913129639936 = 2 ^ s * (x % 2 ^ (256 - s)) := by
    rw [hW, Nat.mul_comm x, Nat.mul_mod_mul_left]
  rw [hy]
  unfold sarN
  have hu : x % 2 ^ (256 - s) < 2 ^ (256 - s) := Nat.mod_lt _ hQ
  generalize x % 2 ^ (256 - s) = u at *
  generalize 2 ^ (256 - s) = Q at *
  generalize 2 ^ s = P at *
  clear hy
  obtain ⟨t, rfl⟩ : ∃ t, Q = u + 1 + t := ⟨Q - u - 1, by omega⟩
  have hW2 : 115792089237316195423570985008687907853269984665640564039457584007913129639936 = P * u + P + P * t := by
    rw [hW, Nat.mul_add, Nat.mul_add, Nat.mul_one]
  clear hW hu hQ
  split
  · have e1 : 115792089237316195423570985008687907853269984665640564039457584007913129639935 - P * u = P * t + (P - 1) := by omega
    have e2 : (P * t + (P - 1)) / P = t := by rw [Nat.mul_add_div hP, Nat.div_eq_of_lt (by omega), Nat.add_zero]
    rw [e1, e2]
    have ht : t ≤ P * t := Nat.le_mul_of_pos_left t hP
    have h1 : (115792089237316195423570985008687907853269984665640564039457584007913129639935 - t) * P + (1 + t) * P = 115792089237316195423570985008687907853269984665640564039457584007913129639936 * P := by
      rw [← Nat.add_mul, show 115792089237316195423570985008687907853269984665640564039457584007913129639935 - t + (1 + t) = 115792089237316195423570985008687907853269984665640564039457584007913129639936 by omega]
    have h2 : (1 + t) * P = P + P * t := by rw [Nat.add_mul, Nat.one_mul, Nat.mul_comm t]
    have h3 : (115792089237316195423570985008687907853269984665640564039457584007913129639935 - t) * P = P * u + 115792089237316195423570985008687907853269984665640564039457584007913129639936 * (P - 1) := by
      generalize (115792089237316195423570985008687907853269984665640564039457584007913129639935 - t) * P = X at *
      generalize (1 + t) * P = Y at *
      omega
    rw [h3, Nat.add_mul_mod_self_left]
    exact Nat.mod_eq_of_lt (by omega)
  · rw [Nat.mul_div_cancel_left u hP, Nat.mul_comm u]
    exact Nat.mod_eq_of_lt (by omega)

theorem sext_twice (k x : Nat) : sextN k (sextN k x) = sextN k x := by
  unfold sextN
  by_cases h : k % 115792089237316195423570985008687907853269984665640564039457584007913129639936 ≤ 30
  · simp only [h, if_true]
    rw [sar_back x _ (by omega)]
  · simp only [h, if_false]

theorem signs_any (k x : Nat) (w : World) : Calls Tryd.prog 12 #[wv k, wv x] w fun e w' => e = .returned (.bool true) ∧ Below w.heap.size w w' := by
  obtain ⟨k0, k1, k2, k3, -, -, -, -, ek, -⟩ := wv_parts k
  obtain ⟨a0, a1, a2, a3, -, -, -, -, ea, -⟩ := wv_parts x
  obtain ⟨s0, s1, s2, s3, -, -, -, -, es, -⟩ := wv_parts (sextN k x)
  have hs0 := fun w => sext_any k x w
  rw [ek, ea, es] at hs0
  have h2 : wv (115792089237316195423570985008687907853269984665640564039457584007913129639935 - (115792089237316195423570985008687907853269984665640564039457584007913129639935 - x % 115792089237316195423570985008687907853269984665640564039457584007913129639936) % 115792089237316195423570985008687907853269984665640564039457584007913129639936) = wv x := wv_congr (by omega)
  have h3 : wv (x + (115792089237316195423570985008687907853269984665640564039457584007913129639935 - x % 115792089237316195423570985008687907853269984665640564039457584007913129639936)) = wv (115792089237316195423570985008687907853269984665640564039457584007913129639935 - 0 % 115792089237316195423570985008687907853269984665640564039457584007913129639936) := wv_congr (by omega)
  have R := signs_walk x k0 k1 k2 k3 a0 a1 a2 a3 s0 s1 s2 s3 (wv k) (wv x) (wv (sextN k x)) _ _ w ek ea es rfl hs0
    (fun w => by have h := sext_any k (sextN k x) w; rw [sext_twice] at h; exact h)
    (fun w => not_any x w)
    (fun w => by have h := not_any (115792089237316195423570985008687907853269984665640564039457584007913129639935 - x % 115792089237316195423570985008687907853269984665640564039457584007913129639936) w; rw [h2] at h; exact h)
    (fun w => by have h := not_any 0 w; rw [wv_zero] at h; exact h)
    (fun w => by have h := add_any x (115792089237316195423570985008687907853269984665640564039457584007913129639935 - x % 115792089237316195423570985008687907853269984665640564039457584007913129639936) w; rw [h3] at h; exact h)
    (neb_any _) (neg_any _) (eqb_any _) (eqg_any _) (eqb_any _) (eqg_any _) lives_any
  rw [ek, ea]
  exact R
end Go.Proofs.YthfadinocadhaaaDoor

/- What word.Shl comes to, called with any words in any world: the word times a power of two. -/
import Derived.Test.YthfadinocadhaaaDoorShl
namespace Go.Proofs.YthfadinocadhaaaDoor
open Go.RowKit

/-- The walk, by numbers: p's are the parts that come to each place. -/
theorem shl_parts (k0 k1 k2 k3 a0 a1 a2 a3 p0 p1 p2 p3 s t : Nat) (wh jm j0 j1 j2 j3 : Int) (hst : s + t = 64) (hs : s < 64)
    (u0 : p0 < 18446744073709551616) (u1 : p1 < 18446744073709551616) (u2 : p2 < 18446744073709551616)
    (e0 : IntKind.i64.wrap (-wh) = j0) (e1 : IntKind.i64.wrap (1 - wh) = j1) (e2 : IntKind.i64.wrap (2 - wh) = j2) (e3 : IntKind.i64.wrap (3 - wh) = j3)
    (g0 : IntKind.i64.wrap (j0 - 1) = jm) (g1 : IntKind.i64.wrap (j1 - 1) = j0) (g2 : IntKind.i64.wrap (j2 - 1) = j1) (g3 : IntKind.i64.wrap (j3 - 1) = j2) (w : World)
    (hC : ∀ (b : Nat) (W : World), W.cell? ⟨b, 0, none⟩ = some (.int .u64 a0) → W.cell? ⟨b, 1, none⟩ = some (.int .u64 a1) → W.cell? ⟨b, 2, none⟩ = some (.int .u64 a2) → W.cell? ⟨b, 3, none⟩ = some (.int .u64 a3) →
      (Calls Tryd.prog 81 #[.int .i64 jm, .pointer (some ⟨b, 0, none⟩)] W fun e w' => e = .returned (.int .u64 0) ∧ w' = W) ∧
      (Calls Tryd.prog 81 #[.int .i64 j0, .pointer (some ⟨b, 0, none⟩)] W fun e w' => e = .returned (.int .u64 p0) ∧ w' = W) ∧
      (Calls Tryd.prog 81 #[.int .i64 j1, .pointer (some ⟨b, 0, none⟩)] W fun e w' => e = .returned (.int .u64 p1) ∧ w' = W) ∧
      (Calls Tryd.prog 81 #[.int .i64 j2, .pointer (some ⟨b, 0, none⟩)] W fun e w' => e = .returned (.int .u64 p2) ∧ w' = W) ∧
      (Calls Tryd.prog 81 #[.int .i64 j3, .pointer (some ⟨b, 0, none⟩)] W fun e w' => e = .returned (.int .u64 p3) ∧ w' = W))
    (hS : ∀ w, Calls Tryd.prog 80 #[.agg #[.int .u64 k0, .int .u64 k1, .int .u64 k2, .int .u64 k3]] w fun e w' => e = .returned (.tuple #[.int .i64 wh, .int .i64 s]) ∧ Below w.heap.size w w') :
    Calls Tryd.prog 37 #[.agg #[.int .u64 k0, .int .u64 k1, .int .u64 k2, .int .u64 k3], .agg #[.int .u64 a0, .int .u64 a1, .int .u64 a2, .int .u64 a3]] w fun e w' =>
      e = .returned (wv (n4 p0 p1 p2 p3 * 2 ^ s)) ∧ Below w.heap.size w w' := by
  have ht : IntKind.i64.wrap (64 - (s : Int)) = (t : Int) := by rw [IntKind.wrap_i64]; omega
  have h := shl_walk k0 k1 k2 k3 a0 a1 a2 a3 0 p0 p1 p2 p3 s t wh jm j0 j1 j2 j3 (by omega) (by omega) ht (by omega) e0 e1 e2 e3 g0 g1 g2 g3 w hC hS
  rw [cmb_up (p := p0) (q := 0) (by omega) hst, cmb_up (p := p1) (q := p0) u0 hst, cmb_up (p := p2) (q := p1) u1 hst, cmb_up (p := p3) (q := p2) u2 hst,
    ← wv_n4 (cmb_lt (by omega) hst) (cmb_lt u0 hst) (cmb_lt u1 hst) (cmb_lt u2 hst), wv_congr (y := n4 p0 p1 p2 p3 * 2 ^ s)] at h
  · exact h
  · rw [← n4_up p0 p1 p2 p3 hst, Nat.add_mul_mod_self_left]

-- WHAT Shl COMES TO.
theorem shl_any (k x : Nat) (w : World) :
    Calls Tryd.prog 37 #[wv k, wv x] w fun e w' => e = .returned (wv (x * 2 ^ min (k % 115792089237316195423570985008687907853269984665640564039457584007913129639936) 256)) ∧ Below w.heap.size w w' := by
  have hS := fun w => steps_any k w
  obtain ⟨k0, k1, k2, k3, -, -, -, -, ek, -⟩ := wv_parts k
  obtain ⟨a0, a1, a2, a3, u0, u1, u2, u3, ea, na⟩ := wv_parts x
  generalize hm : min (k % 115792089237316195423570985008687907853269984665640564039457584007913129639936) 256 = m at *
  have hm256 : m ≤ 256 := by omega
  clear hm
  have hx : ∀ y z : Nat, y % 115792089237316195423570985008687907853269984665640564039457584007913129639936 = n4 a0 a1 a2 a3 * z % 115792089237316195423570985008687907853269984665640564039457584007913129639936 → z = 2 ^ m → wv y = wv (x * 2 ^ m) := by
    intro y z h hz
    refine wv_congr ?_
    rw [h, hz, na, Nat.mod_mul_mod]
  rw [ek] at hS
  rw [ek, ea]
  have hst : m % 64 + (64 - m % 64) = 64 := by omega
  have hs : m % 64 < 64 := by omega
  have hw : m / 64 = 0 ∨ m / 64 = 1 ∨ m / 64 = 2 ∨ m / 64 = 3 ∨ m / 64 = 4 := by omega
  have neg := fun (i : Int) (hi : i < 0) (b : Nat) (W : World) => part_neg i b hi W
  rcases hw with h | h | h | h | h
  all_goals rw [h] at hS
  · rw [← hx (n4 a0 a1 a2 a3 * 2 ^ (m % 64)) (2 ^ (m % 64)) rfl (by congr 1; omega)]
    exact shl_parts k0 k1 k2 k3 a0 a1 a2 a3 a0 a1 a2 a3 (m % 64) (64 - m % 64) 0 (-1) 0 1 2 3 hst hs u0 u1 u2 (by decide) (by decide) (by decide) (by decide) (by decide) (by decide) (by decide) (by decide) w
      (fun b W c0 c1 c2 c3 => ⟨neg _ (by omega) b W, part_at 0 b _ (by omega) (by omega) W c0, part_at 1 b _ (by omega) (by omega) W c1, part_at 2 b _ (by omega) (by omega) W c2, part_at 3 b _ (by omega) (by omega) W c3⟩) hS
  · rw [← hx (n4 0 a0 a1 a2 * 2 ^ (m % 64)) (18446744073709551616 * 2 ^ (m % 64)) (by rw [← Nat.mul_assoc, ← Nat.mod_mul_mod, ← Nat.mod_mul_mod (n4 a0 a1 a2 a3 * _)]; congr 2; unfold n4; omega) (by rw [show (18446744073709551616 : Nat) = 2 ^ 64 by decide, ← Nat.pow_add]; congr 1; omega)]
    exact shl_parts k0 k1 k2 k3 a0 a1 a2 a3 0 a0 a1 a2 (m % 64) (64 - m % 64) 1 (-2) (-1) 0 1 2 hst hs (by omega) u0 u1 (by decide) (by decide) (by decide) (by decide) (by decide) (by decide) (by decide) (by decide) w
      (fun b W c0 c1 c2 c3 => ⟨neg _ (by omega) b W, neg _ (by omega) b W, part_at 0 b _ (by omega) (by omega) W c0, part_at 1 b _ (by omega) (by omega) W c1, part_at 2 b _ (by omega) (by omega) W c2⟩) hS
  · rw [← hx (n4 0 0 a0 a1 * 2 ^ (m % 64)) (340282366920938463463374607431768211456 * 2 ^ (m % 64)) (by rw [← Nat.mul_assoc, ← Nat.mod_mul_mod, ← Nat.mod_mul_mod (n4 a0 a1 a2 a3 * _)]; congr 2; unfold n4; omega) (by rw [show (340282366920938463463374607431768211456 : Nat) = 2 ^ 128 by decide, ← Nat.pow_add]; congr 1; omega)]
    exact shl_parts k0 k1 k2 k3 a0 a1 a2 a3 0 0 a0 a1 (m % 64) (64 - m % 64) 2 (-3) (-2) (-1) 0 1 hst hs (by omega) (by omega) u0 (by decide) (by decide) (by decide) (by decide) (by decide) (by decide) (by decide) (by decide) w
      (fun b W c0 c1 c2 c3 => ⟨neg _ (by omega) b W, neg _ (by omega) b W, neg _ (by omega) b W, part_at 0 b _ (by omega) (by omega) W c0, part_at 1 b _ (by omega) (by omega) W c1⟩) hS
  · rw [← hx (n4 0 0 0 a0 * 2 ^ (m % 64)) (6277101735386680763835789423207666416102355444464034512896 * 2 ^ (m % 64)) (by rw [← Nat.mul_assoc, ← Nat.mod_mul_mod, ← Nat.mod_mul_mod (n4 a0 a1 a2 a3 * _)]; congr 2; unfold n4; omega) (by rw [show (6277101735386680763835789423207666416102355444464034512896 : Nat) = 2 ^ 192 by decide, ← Nat.pow_add]; congr 1; omega)]
    exact shl_parts k0 k1 k2 k3 a0 a1 a2 a3 0 0 0 a0 (m % 64) (64 - m % 64) 3 (-4) (-3) (-2) (-1) 0 hst hs (by omega) (by omega) (by omega) (by decide) (by decide) (by decide) (by decide) (by decide) (by decide) (by decide) (by decide) w
      (fun b W c0 c1 c2 c3 => ⟨neg _ (by omega) b W, neg _ (by omega) b W, neg _ (by omega) b W, neg _ (by omega) b W, part_at 0 b _ (by omega) (by omega) W c0⟩) hS
  · have hm0 : m % 64 = 0 := by omega
    rw [← hx (n4 0 0 0 0 * 2 ^ (m % 64)) (115792089237316195423570985008687907853269984665640564039457584007913129639936 * 2 ^ (m % 64)) (by rw [← Nat.mul_assoc, ← Nat.mod_mul_mod, ← Nat.mod_mul_mod (n4 a0 a1 a2 a3 * _)]; congr 2; unfold n4; omega) (by rw [show (115792089237316195423570985008687907853269984665640564039457584007913129639936 : Nat) = 2 ^ 256 by decide, ← Nat.pow_add]; congr 1; omega)]
    exact shl_parts k0 k1 k2 k3 a0 a1 a2 a3 0 0 0 0 (m % 64) (64 - m % 64) 4 (-5) (-4) (-3) (-2) (-1) hst hs (by omega) (by omega) (by omega) (by decide) (by decide) (by decide) (by decide) (by decide) (by decide) (by decide) (by decide) w
      (fun b W c0 c1 c2 c3 => ⟨neg _ (by omega) b W, neg _ (by omega) b W, neg _ (by omega) b W, neg _ (by omega) b W, neg _ (by omega) b W⟩) hS
end Go.Proofs.YthfadinocadhaaaDoor

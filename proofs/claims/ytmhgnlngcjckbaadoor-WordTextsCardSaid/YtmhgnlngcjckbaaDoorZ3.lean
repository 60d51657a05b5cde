/- The bits of a word whose sign is extended, in plain numbers: a bit after the other is laid anew. (With it, merged: Shls · Downs · Not · Refs · Div64 · DivW · Guess · BitsW · Pick · Byte · Sext · ShRef · SxNum.) -/
import Derived.Test.YtmhgnlngcjckbaaDoorZ2
import Derived.Laws.Bits64
import Derived.Test.YtmhgnlngcjckbaaDoorZ1
import Derived.WalkKit
import Derived.Deep.LoopGhost
import Derived.BigQuiet
import Derived.Lib.Hide
import Derived.Deep.QuietTactic
import Derived.Lib.ItoaNum
import Derived.Laws.Bits64b
import Derived.Laws.BitsAllLaws
namespace Go.Proofs.YtmhgnlngcjckbaaDoor
open Go.RowKit

/-- The walk, by numbers: p's are the parts that come to each place. -/
theorem shl_parts (k0 k1 k2 k3 a0 a1 a2 a3 p0 p1 p2 p3 s t : Nat) (wh jm j0 j1 j2 j3 : Int) (hst : s + t = 64) (hs : s < 64)
    (u0 : p0 < 18446744073709551616) (u1 : p1 < 18446744073709551616) (u2 : p2 < 18446744073709551616)
    (e0 : IntKind.i64.wrap (-wh) = j0) (e1 : IntKind.i64.wrap (1 - wh) = j1) (e2 : IntKind.i64.wrap (2 - wh) = j2) (e3 : IntKind.i64.wrap (3 - wh) = j3)
    (g0 : IntKind.i64.wrap (j0 - 1) = jm) (g1 : IntKind.i64.wrap (j1 - 1) = j0) (g2 : IntKind.i64.wrap (j2 - 1) = j1) (g3 : IntKind.i64.wrap (j3 - 1) = j2) (w : World)
    (hC : ∀ (b : Nat) (W : World), W.cell? ⟨b, 0, none⟩ = some (.int .u64 a0) → W.cell? ⟨b, 1, none⟩ = some (.int .u64 a1) → W.cell? ⟨b, 2, none⟩ = some (.int .u64 a2) → W.cell? ⟨b, 3, none⟩ = some (.int .u64 a3) →
      (Calls Tryd.prog 50 #[.int .i64 jm, .pointer (some ⟨b, 0, none⟩)] W fun e w' => e = .returned (.int .u64 0) ∧ w' = W) ∧
      (Calls Tryd.prog 50 #[.int .i64 j0, .pointer (some ⟨b, 0, none⟩)] W fun e w' => e = .returned (.int .u64 p0) ∧ w' = W) ∧
      (Calls Tryd.prog 50 #[.int .i64 j1, .pointer (some ⟨b, 0, none⟩)] W fun e w' => e = .returned (.int .u64 p1) ∧ w' = W) ∧
      (Calls Tryd.prog 50 #[.int .i64 j2, .pointer (some ⟨b, 0, none⟩)] W fun e w' => e = .returned (.int .u64 p2) ∧ w' = W) ∧
      (Calls Tryd.prog 50 #[.int .i64 j3, .pointer (some ⟨b, 0, none⟩)] W fun e w' => e = .returned (.int .u64 p3) ∧ w' = W))
    (hS : ∀ w, Calls Tryd.prog 49 #[.agg #[.int .u64 k0, .int .u64 k1, .int .u64 k2, .int .u64 k3]] w fun e w' => e = .returned (.tuple #[.int .i64 wh, .int .i64 s]) ∧ Below w.heap.size w w') :
    Calls Tryd.prog 33 #[.agg #[.int .u64 k0, .int .u64 k1, .int .u64 k2, .int .u64 k3], .agg #[.int .u64 a0, .int .u64 a1, .int .u64 a2, .int .u64 a3]] w fun e w' =>
      e = .returned (wv (n4 p0 p1 p2 p3 * 2 ^ s)) ∧ Below w.heap.size w w' := by
  have ht : IntKind.i64.wrap (64 - (s : Int)) = (t : Int) := by rw [IntKind.wrap_i64]; omega
  have h := shl_walk k0 k1 k2 k3 a0 a1 a2 a3 0 p0 p1 p2 p3 s t wh jm j0 j1 j2 j3 (by omega) (by omega) ht (by omega) e0 e1 e2 e3 g0 g1 g2 g3 w hC hS
  rw [cmb_up (p := p0) (q := 0) (by omega) hst, cmb_up (p := p1) (q := p0) u0 hst, cmb_up (p := p2) (q := p1) u1 hst, cmb_up (p := p3) (q := p2) u2 hst,
    ← wv_n4 (cmb_lt (by omega) hst) (cmb_lt u0 hst) (cmb_lt u1 hst) (cmb_lt u2 hst), wv_congr (y := n4 p0 p1 p2 p3 * 2 ^ s)] at h
  · exact h
  · rw [← n4_up p0 p1 p2 p3 hst, Nat.add_mul_mod_self_left]

-- WHAT Shl COMES TO.
theorem shl_any (k x : Nat) (w : World) :
    Calls Tryd.prog 33 #[wv k, wv x] w fun e w' => e = .returned (wv (x * 2 ^ min (k % 115792089237316195423570985008687907853269984665640564039457584007913129639936) 256)) ∧ Below w.heap.size w w' := by
  have hS := fun w => steps_any k w
  obtain ⟨k0, k1, k2, k3, -, -, -, -, ek, -⟩ := wv_parts k
  obtain ⟨a0, a1, a2, a3, u0, u1, u2, u3, ea, na⟩ := wv_parts x
  generalize hm : min (k % 115792089237316195423570985008687907853269984665640564039457584007913129639936) 256 = m at *
  have hm256 : m ≤ 256 := by omega
  clear hm
  have hx : ∀ y z : Nat, y % 115792089237316195423570985008687907853269984665640564039457584007913129639936 = n4 a0 a1 a2 a3 * z % 115792089237316195423570985008687907853269984665640564039457584007913129639936 → z = 2 ^ m → wv y = wv (x * 2 ^ m) := by
    intro y z h hz
    refine wv_congr ?_
    rw [h, hz, na, Nat.mod_mul_mod]
  rw [ek] at hS
  rw [ek, ea]
  have hst : m % 64 + (64 - m % 64) = 64 := by omega
  have hs : m % 64 < 64 := by omega
  have hw : m / 64 = 0 ∨ m / 64 = 1 ∨ m / 64 = 2 ∨ m / 64 = 3 ∨ m / 64 = 4 := by omega
  have neg := fun (i : Int) (hi : i < 0) (b : Nat) (W : World) => part_neg i b hi W
  rcases hw with h | h | h | h | h
  all_goals rw [h] at hS
  · rw [← hx (n4 a0 a1 a2 a3 * 2 ^ (m % 64)) (2 ^ (m % 64)) rfl (by congr 1; omega)]
    exact shl_parts k0 k1 k2 k3 a0 a1 a2 a3 a0 a1 a2 a3 (m % 64) (64 - m % 64) 0 (-1) 0 1 2 3 hst hs u0 u1 u2 (by decide) (by decide) (by decide) (by decide) (by decide) (by decide) (by decide) (by decide) w
      (fun b W c0 c1 c2 c3 => ⟨neg _ (by omega) b W, part_at 0 b _ (by omega) (by omega) W c0, part_at 1 b _ (by omega) (by omega) W c1, part_at 2 b _ (by omega) (by omega) W c2, part_at 3 b _ (by omega) (by omega) W c3⟩) hS
  · rw [← hx (n4 0 a0 a1 a2 * 2 ^ (m % 64)) (18446744073709551616 * 2 ^ (m % 64)) (by rw [← Nat.mul_assoc, ← Nat.mod_mul_mod, ← Nat.mod_mul_mod (n4 a0 a1 a2 a3 * _)]; congr 2; unfold n4; omega) (by rw [show (18446744073709551616 : Nat) = 2 ^ 64 by decide, ← Nat.pow_add]; congr 1; omega)]
    exact shl_parts k0 k1 k2 k3 a0 a1 a2 a3 0 a0 a1 a2 (m % 64) (64 - m % 64) 1 (-2) (-1) 0 1 2 hst hs (by omega) u0 u1 (by decide) (by decide) (by decide) (by decide) (by decide) (by decide) (by decide) (by decide) w
      (fun b W c0 c1 c2 c3 => ⟨neg _ (by omega) b W, neg _ (by omega) b W, part_at 0 b _ (by omega) (by omega) W c0, part_at 1 b _ (by omega) (by omega) W c1, part_at 2 b _ (by omega) (by omega) W c2⟩) hS
  · rw [← hx (n4 0 0 a0 a1 * 2 ^ (m % 64)) (340282366920938463463374607431768211456 * 2 ^ (m % 64)) (by rw [← Nat.mul_assoc, ← Nat.mod_mul_mod, ← Nat.mod_mul_mod (n4 a0 a1 a2 a3 * _)]; congr 2; unfold n4; omega) (by rw [show (340282366920938463463374607431768211456 : Nat) = 2 ^ 128 by decide, ← Nat.pow_add]; congr 1; omega)]
    exact shl_parts k0 k1 k2 k3 a0 a1 a2 a3 0 0 a0 a1 (m % 64) (64 - m % 64) 2 (-3) (-2) (-1) 0 1 hst hs (by omega) (by omega) u0 (by decide) (by decide) (by decide) (by decide) (by decide) (by decide) (by decide) (by decide) w
      (fun b W c0 c1 c2 c3 => ⟨neg _ (by omega) b W, neg _ (by omega) b W, neg _ (by omega) b W, part_at 0 b _ (by omega) (by omega) W c0, part_at 1 b _ (by omega) (by omega) W c1⟩) hS
  · rw [← hx (n4 0 0 0 a0 * 2 ^ (m % 64)) (6277101735386680763835789423207666416102355444464034512896 * 2 ^ (m % 64)) (by rw [← Nat.mul_assoc, ← Nat.mod_mul_mod, ← Nat.mod_mul_mod (n4 a0 a1 a2 a3 * _)]; congr 2; unfold n4; omega) (by rw [show (6277101735386680763835789423207666416102355444464034512896 : Nat) = 2 ^ 192 by decide, ← Nat.pow_add]; congr 1; omega)]
    exact shl_parts k0 k1 k2 k3 a0 a1 a2 a3 0 0 0 a0 (m % 64) (64 - m % 64) 3 (-4) (-3) (-2) (-1) 0 hst hs (by omega) (by omega) (by omega) (by decide) (by decide) (by decide) (by decide) (by decide) (by decide) (by decide) (by decide) w
      (fun b W c0 c1 c2 c3 => ⟨neg _ (by omega) b W, neg _ (by omega) b W, neg _ (by omega) b W, neg _ (by omega) b W, part_at 0 b _ (by omega) (by omega) W c0⟩) hS
  · have hm0 : m % 64 = 0 := by omega
    rw [← hx (n4 0 0 0 0 * 2 ^ (m % 64)) (115792089237316195423570985008687907853269984665640564039457584007913129639936 * 2 ^ (m % 64)) (by rw [← Nat.mul_assoc, ← Nat.mod_mul_mod, ← Nat.mod_mul_mod (n4 a0 a1 a2 a3 * _)]; congr 2; unfold n4; omega) (by rw [show (115792089237316195423570985008687907853269984665640564039457584007913129639936 : Nat) = 2 ^ 256 by decide, ← Nat.pow_add]; congr 1; omega)]
    exact shl_parts k0 k1 k2 k3 a0 a1 a2 a3 0 0 0 0 (m % 64) (64 - m % 64) 4 (-5) (-4) (-3) (-2) (-1) hst hs (by omega) (by omega) (by omega) (by decide) (by decide) (by decide) (by decide) (by decide) (by decide) (by decide) (by decide) w
      (fun b W c0 c1 c2 c3 => ⟨neg _ (by omega) b W, neg _ (by omega) b W, neg _ (by omega) b W, neg _ (by omega) b W, neg _ (by omega) b W⟩) hS
end Go.Proofs.YtmhgnlngcjckbaaDoor
namespace Go.Proofs.YtmhgnlngcjckbaaDoor
open Go.RowKit

/-- Both halves of all ones, shifted down alike, are all ones together. -/
theorem comp_down {p q s t : Nat} (hp : p < 18446744073709551616) (hq : q < 18446744073709551616) (h : s + t = 64) :
    p / 2 ^ s + q * 2 ^ t % 18446744073709551616 + ((18446744073709551615 - p) / 2 ^ s + (18446744073709551615 - q) * 2 ^ t % 18446744073709551616) = 18446744073709551615 := by
  have hD := pow_split h
  have hS : 0 < 2 ^ s := Nat.two_pow_pos s
  have hT : 0 < 2 ^ t := Nat.two_pow_pos t
  have e : ∀ y, y * 2 ^ t % 18446744073709551616 = 2 ^ t * (y % 2 ^ s) := fun y => by
    rw [← hD, Nat.mul_comm (2 ^ s), Nat.mul_comm y, Nat.mul_mod_mul_left]
  rw [e, e]
  -- p and what it lacks, by 2^s
  have d1 : (18446744073709551615 - p) / 2 ^ s = 2 ^ t - 1 - p / 2 ^ s := by
    have hp' : p < 2 ^ s * 2 ^ t := by omega
    have h2 : 18446744073709551615 - p = 2 ^ s * (2 ^ t - 1 - p / 2 ^ s) + (2 ^ s - 1 - p % 2 ^ s) := by
      have hm := Nat.div_add_mod p (2 ^ s)
      have hl : p / 2 ^ s < 2 ^ t := by rw [Nat.div_lt_iff_lt_mul hS, Nat.mul_comm]; exact hp'
      have hr := Nat.mod_lt p hS
      have : 2 ^ s * (2 ^ t - 1 - p / 2 ^ s) + 2 ^ s * (p / 2 ^ s) + 2 ^ s = 2 ^ s * 2 ^ t := by
        rw [← Nat.mul_add, ← Nat.mul_succ]; congr 1; omega
      omega
    have hr := Nat.mod_lt p hS
    rw [h2, Nat.mul_add_div hS, Nat.div_eq_of_lt (show 2 ^ s - 1 - p % 2 ^ s < 2 ^ s by omega), Nat.add_zero]
  have d2 : (18446744073709551615 - q) % 2 ^ s = 2 ^ s - 1 - q % 2 ^ s := by
    have hq' : q < 2 ^ s * 2 ^ t := by omega
    have h2 : 18446744073709551615 - q = 2 ^ s * (2 ^ t - 1 - q / 2 ^ s) + (2 ^ s - 1 - q % 2 ^ s) := by
      have hm := Nat.div_add_mod q (2 ^ s)
      have hl : q / 2 ^ s < 2 ^ t := by rw [Nat.div_lt_iff_lt_mul hS, Nat.mul_comm]; exact hq'
      have hr := Nat.mod_lt q hS
      have : 2 ^ s * (2 ^ t - 1 - q / 2 ^ s) + 2 ^ s * (q / 2 ^ s) + 2 ^ s = 2 ^ s * 2 ^ t := by
        rw [← Nat.mul_add, ← Nat.mul_succ]; congr 1; omega
      omega
    have hr := Nat.mod_lt q hS
    rw [h2, Nat.mul_add_mod, Nat.mod_eq_of_lt (by omega)]
  rw [d1, d2]
  have hl : p / 2 ^ s < 2 ^ t := by rw [Nat.div_lt_iff_lt_mul hS, Nat.mul_comm, hD]; exact hp
  have hr := Nat.mod_lt q hS
  have : 2 ^ t * (q % 2 ^ s) + 2 ^ t * (2 ^ s - 1 - q % 2 ^ s) + 2 ^ t = 2 ^ s * 2 ^ t := by
    rw [← Nat.mul_add, ← Nat.mul_succ, Nat.mul_comm (2 ^ s)]; congr 1; omega
  omega

theorem down_lt {p q s t : Nat} (hp : p < 18446744073709551616) (h : s + t = 64) : p / 2 ^ s + q * 2 ^ t % 18446744073709551616 < 18446744073709551616 := by
  have hD := pow_split h
  have hS : 0 < 2 ^ s := Nat.two_pow_pos s
  have hps : p / 2 ^ s < 2 ^ t := by rw [Nat.div_lt_iff_lt_mul hS, Nat.mul_comm, hD]; exact hp
  have e : q * 2 ^ t % 18446744073709551616 = 2 ^ t * (q % 2 ^ s) := by
    rw [← hD, Nat.mul_comm (2 ^ s), Nat.mul_comm q, Nat.mul_mod_mul_left]
  have hr := Nat.mod_lt q hS
  have : 2 ^ t * (q % 2 ^ s) + 2 ^ t ≤ 2 ^ s * 2 ^ t := by
    rw [← Nat.mul_succ, Nat.mul_comm (2 ^ s)]; exact Nat.mul_le_mul_left _ hr
  omega

/-- The walk, by numbers. -/
theorem down_parts (k0 k1 k2 k3 a0 a1 a2 a3 f p0 p1 p2 p3 p4 s t : Nat) (wh j0 j1 j2 j3 j4 : Int) (hst : s + t = 64) (hs : s < 64)
    (u0 : p0 < 18446744073709551616) (u1 : p1 < 18446744073709551616) (u2 : p2 < 18446744073709551616) (u3 : p3 < 18446744073709551616)
    (e0 : IntKind.i64.wrap wh = j0) (e1 : IntKind.i64.wrap (1 + wh) = j1) (e2 : IntKind.i64.wrap (2 + wh) = j2) (e3 : IntKind.i64.wrap (3 + wh) = j3)
    (g0 : IntKind.i64.wrap (j0 + 1) = j1) (g1 : IntKind.i64.wrap (j1 + 1) = j2) (g2 : IntKind.i64.wrap (j2 + 1) = j3) (g3 : IntKind.i64.wrap (j3 + 1) = j4) (w : World)
    (hC : ∀ (b c : Nat) (W : World), W.cell? ⟨b, 0, none⟩ = some (.int .u64 a0) → W.cell? ⟨b, 1, none⟩ = some (.int .u64 a1) → W.cell? ⟨b, 2, none⟩ = some (.int .u64 a2) → W.cell? ⟨b, 3, none⟩ = some (.int .u64 a3) → W.cell? ⟨c, 0, none⟩ = some (.int .u64 f) →
      (Calls Tryd.prog 70 #[.int .i64 j0, .pointer (some ⟨b, 0, none⟩), .pointer (some ⟨c, 0, none⟩)] W fun e w' => e = .returned (.int .u64 p0) ∧ w' = W) ∧
      (Calls Tryd.prog 70 #[.int .i64 j1, .pointer (some ⟨b, 0, none⟩), .pointer (some ⟨c, 0, none⟩)] W fun e w' => e = .returned (.int .u64 p1) ∧ w' = W) ∧
      (Calls Tryd.prog 70 #[.int .i64 j2, .pointer (some ⟨b, 0, none⟩), .pointer (some ⟨c, 0, none⟩)] W fun e w' => e = .returned (.int .u64 p2) ∧ w' = W) ∧
      (Calls Tryd.prog 70 #[.int .i64 j3, .pointer (some ⟨b, 0, none⟩), .pointer (some ⟨c, 0, none⟩)] W fun e w' => e = .returned (.int .u64 p3) ∧ w' = W) ∧
      (Calls Tryd.prog 70 #[.int .i64 j4, .pointer (some ⟨b, 0, none⟩), .pointer (some ⟨c, 0, none⟩)] W fun e w' => e = .returned (.int .u64 p4) ∧ w' = W))
    (hS : ∀ w, Calls Tryd.prog 49 #[.agg #[.int .u64 k0, .int .u64 k1, .int .u64 k2, .int .u64 k3]] w fun e w' => e = .returned (.tuple #[.int .i64 wh, .int .i64 s]) ∧ Below w.heap.size w w') :
    Calls Tryd.prog 54 #[.agg #[.int .u64 k0, .int .u64 k1, .int .u64 k2, .int .u64 k3], .agg #[.int .u64 a0, .int .u64 a1, .int .u64 a2, .int .u64 a3], .int .u64 f] w fun e w' =>
      e = .returned (wv (n4 (p0 / 2 ^ s + p1 * 2 ^ t % 18446744073709551616) (p1 / 2 ^ s + p2 * 2 ^ t % 18446744073709551616) (p2 / 2 ^ s + p3 * 2 ^ t % 18446744073709551616) (p3 / 2 ^ s + p4 * 2 ^ t % 18446744073709551616))) ∧ Below w.heap.size w w' := by
  have ht : IntKind.i64.wrap (64 - (s : Int)) = (t : Int) := by rw [IntKind.wrap_i64]; omega
  have h := down_walk k0 k1 k2 k3 a0 a1 a2 a3 f p0 p1 p2 p3 p4 s t wh j0 j1 j2 j3 j4 (by omega) (by omega) ht (by omega) e0 e1 e2 e3 g0 g1 g2 g3 w hC hS
  rw [cmb_down (p := p0) (q := p1) u0 hst, cmb_down (p := p1) (q := p2) u1 hst, cmb_down (p := p2) (q := p3) u2 hst, cmb_down (p := p3) (q := p4) u3 hst,
    ← wv_n4 (down_lt u0 hst) (down_lt u1 hst) (down_lt u2 hst) (down_lt u3 hst)] at h
  exact h

/-- What the parts come to at each distance: a is a word's part or, above them, f. -/
def sel (a0 a1 a2 a3 f : Nat) (i : Nat) : Nat := match i with | 0 => a0 | 1 => a1 | 2 => a2 | 3 => a3 | _ => f

theorem down_sel (k x m f : Nat) (a0 a1 a2 a3 : Nat) (hf : f < 18446744073709551616) (u0 : a0 < 18446744073709551616) (u1 : a1 < 18446744073709551616) (u2 : a2 < 18446744073709551616) (u3 : a3 < 18446744073709551616) (hm : m ≤ 256)
    (ea : wv x = .agg #[.int .u64 a0, .int .u64 a1, .int .u64 a2, .int .u64 a3])
    (hS : ∀ w, Calls Tryd.prog 49 #[wv k] w fun e w' => e = .returned (.tuple #[.int .i64 ((m / 64 : Nat) : Int), .int .i64 ((m % 64 : Nat) : Int)]) ∧ Below w.heap.size w w') (w : World) :
    Calls Tryd.prog 54 #[wv k, wv x, .int .u64 f] w fun e w' =>
      e = .returned (wv (n4 (sel a0 a1 a2 a3 f (m / 64) / 2 ^ (m % 64) + sel a0 a1 a2 a3 f (m / 64 + 1) * 2 ^ (64 - m % 64) % 18446744073709551616) (sel a0 a1 a2 a3 f (m / 64 + 1) / 2 ^ (m % 64) + sel a0 a1 a2 a3 f (m / 64 + 2) * 2 ^ (64 - m % 64) % 18446744073709551616)
        (sel a0 a1 a2 a3 f (m / 64 + 2) / 2 ^ (m % 64) + sel a0 a1 a2 a3 f (m / 64 + 3) * 2 ^ (64 - m % 64) % 18446744073709551616) (sel a0 a1 a2 a3 f (m / 64 + 3) / 2 ^ (m % 64) + f * 2 ^ (64 - m % 64) % 18446744073709551616))) ∧ Below w.heap.size w w' := by
  obtain ⟨k0, k1, k2, k3, -, -, -, -, ek, -⟩ := wv_parts k
  rw [ek] at hS
  rw [ek, ea]
  have hst : m % 64 + (64 - m % 64) = 64 := by omega
  have hs : m % 64 < 64 := by omega
  have hw : m / 64 = 0 ∨ m / 64 = 1 ∨ m / 64 = 2 ∨ m / 64 = 3 ∨ m / 64 = 4 := by omega
  have past := fun (i : Int) (hi : 4 ≤ i) (b c : Nat) (W : World) (h : W.cell? ⟨c, 0, none⟩ = some (.int .u64 f)) => down_past i b c _ hi W h
  rcases hw with h | h | h | h | h
  all_goals rw [h] at hS ⊢
  · exact down_parts k0 k1 k2 k3 a0 a1 a2 a3 f a0 a1 a2 a3 f (m % 64) (64 - m % 64) 0 0 1 2 3 4 hst hs u0 u1 u2 u3 (by decide) (by decide) (by decide) (by decide) (by decide) (by decide) (by decide) (by decide) w
      (fun b c W c0 c1 c2 c3 cf => ⟨down_at 0 b c _ (by omega) (by omega) W c0, down_at 1 b c _ (by omega) (by omega) W c1, down_at 2 b c _ (by omega) (by omega) W c2, down_at 3 b c _ (by omega) (by omega) W c3, past 4 (by omega) b c W cf⟩) hS
  · exact down_parts k0 k1 k2 k3 a0 a1 a2 a3 f a1 a2 a3 f f (m % 64) (64 - m % 64) 1 1 2 3 4 5 hst hs u1 u2 u3 hf (by decide) (by decide) (by decide) (by decide) (by decide) (by decide) (by decide) (by decide) w
      (fun b c W c0 c1 c2 c3 cf => ⟨down_at 1 b c _ (by omega) (by omega) W c1, down_at 2 b c _ (by omega) (by omega) W c2, down_at 3 b c _ (by omega) (by omega) W c3, past 4 (by omega) b c W cf, past 5 (by omega) b c W cf⟩) hS
  · exact down_parts k0 k1 k2 k3 a0 a1 a2 a3 f a2 a3 f f f (m % 64) (64 - m % 64) 2 2 3 4 5 6 hst hs u2 u3 hf hf (by decide) (by decide) (by decide) (by decide) (by decide) (by decide) (by decide) (by decide) w
      (fun b c W c0 c1 c2 c3 cf => ⟨down_at 2 b c _ (by omega) (by omega) W c2, down_at 3 b c _ (by omega) (by omega) W c3, past 4 (by omega) b c W cf, past 5 (by omega) b c W cf, past 6 (by omega) b c W cf⟩) hS
  · exact down_parts k0 k1 k2 k3 a0 a1 a2 a3 f a3 f f f f (m % 64) (64 - m % 64) 3 3 4 5 6 7 hst hs u3 hf hf hf (by decide) (by decide) (by decide) (by decide) (by decide) (by decide) (by decide) (by decide) w
      (fun b c W c0 c1 c2 c3 cf => ⟨down_at 3 b c _ (by omega) (by omega) W c3, past 4 (by omega) b c W cf, past 5 (by omega) b c W cf, past 6 (by omega) b c W cf, past 7 (by omega) b c W cf⟩) hS
  · exact down_parts k0 k1 k2 k3 a0 a1 a2 a3 f f f f f f (m % 64) (64 - m % 64) 4 4 5 6 7 8 hst hs hf hf hf hf (by decide) (by decide) (by decide) (by decide) (by decide) (by decide) (by decide) (by decide) w
      (fun b c W c0 c1 c2 c3 cf => ⟨past 4 (by omega) b c W cf, past 5 (by omega) b c W cf, past 6 (by omega) b c W cf, past 7 (by omega) b c W cf, past 8 (by omega) b c W cf⟩) hS

theorem n4_sel (a0 a1 a2 a3 : Nat) (u0 : a0 < 18446744073709551616) (u1 : a1 < 18446744073709551616) (u2 : a2 < 18446744073709551616) (u3 : a3 < 18446744073709551616) (i : Nat) (hi : i ≤ 4) :
    n4 (sel a0 a1 a2 a3 0 i) (sel a0 a1 a2 a3 0 (i + 1)) (sel a0 a1 a2 a3 0 (i + 2)) (sel a0 a1 a2 a3 0 (i + 3)) = n4 a0 a1 a2 a3 / 2 ^ (64 * i) := by
  have hw : i = 0 ∨ i = 1 ∨ i = 2 ∨ i = 3 ∨ i = 4 := by omega
  rcases hw with rfl | rfl | rfl | rfl | rfl <;> simp only [sel, Nat.reduceMul, Nat.reducePow, Nat.reduceAdd] <;> unfold n4 <;> omega

-- WHAT shiftDown COMES TO, noughts from above.
theorem down0_any (k x : Nat) (w : World) :
    Calls Tryd.prog 54 #[wv k, wv x, .int .u64 0] w fun e w' => e = .returned (wv (x % 115792089237316195423570985008687907853269984665640564039457584007913129639936 / 2 ^ min (k % 115792089237316195423570985008687907853269984665640564039457584007913129639936) 256)) ∧ Below w.heap.size w w' := by
  have hS := fun w => steps_any k w
  obtain ⟨a0, a1, a2, a3, u0, u1, u2, u3, ea, na⟩ := wv_parts x
  generalize hm : min (k % 115792089237316195423570985008687907853269984665640564039457584007913129639936) 256 = m at *
  have hm256 : m ≤ 256 := by omega
  clear hm
  have h := down_sel k x m 0 a0 a1 a2 a3 (by omega) u0 u1 u2 u3 hm256 ea hS w
  rw [n4_down _ _ _ _ 0 (show m % 64 + (64 - m % 64) = 64 by omega), n4_sel a0 a1 a2 a3 u0 u1 u2 u3 _ (by omega), na, Nat.div_div_eq_div_mul, ← Nat.pow_add, show 64 * (m / 64) + m % 64 = m by omega, Nat.zero_mul] at h
  exact h

theorem n4_comp {c0 c1 c2 c3 d0 d1 d2 d3 : Nat} (h0 : c0 + d0 = 18446744073709551615) (h1 : c1 + d1 = 18446744073709551615) (h2 : c2 + d2 = 18446744073709551615) (h3 : c3 + d3 = 18446744073709551615) : n4 c0 c1 c2 c3 = 115792089237316195423570985008687907853269984665640564039457584007913129639935 - n4 d0 d1 d2 d3 := by unfold n4; omega
theorem sel_comp (a0 a1 a2 a3 i : Nat) (u0 : a0 < 18446744073709551616) (u1 : a1 < 18446744073709551616) (u2 : a2 < 18446744073709551616) (u3 : a3 < 18446744073709551616) : sel a0 a1 a2 a3 18446744073709551615 i < 18446744073709551616 ∧ 18446744073709551615 - sel a0 a1 a2 a3 18446744073709551615 i = sel (18446744073709551615 - a0) (18446744073709551615 - a1) (18446744073709551615 - a2) (18446744073709551615 - a3) 0 i := by
  unfold sel
  split <;> omega

-- WHAT shiftDown COMES TO, ones from above.
theorem down1_any (k x : Nat) (w : World) :
    Calls Tryd.prog 54 #[wv k, wv x, .int .u64 18446744073709551615] w fun e w' => e = .returned (wv (115792089237316195423570985008687907853269984665640564039457584007913129639935 - (115792089237316195423570985008687907853269984665640564039457584007913129639935 - x % 115792089237316195423570985008687907853269984665640564039457584007913129639936) / 2 ^ min (k % 115792089237316195423570985008687907853269984665640564039457584007913129639936) 256)) ∧ Below w.heap.size w w' := by
  have hS := fun w => steps_any k w
  obtain ⟨a0, a1, a2, a3, u0, u1, u2, u3, ea, na⟩ := wv_parts x
  generalize hm : min (k % 115792089237316195423570985008687907853269984665640564039457584007913129639936) 256 = m at *
  have hm256 : m ≤ 256 := by omega
  clear hm
  have h := down_sel k x m 18446744073709551615 a0 a1 a2 a3 (by omega) u0 u1 u2 u3 hm256 ea hS w
  have hst : m % 64 + (64 - m % 64) = 64 := by omega
  have S := fun i => sel_comp a0 a1 a2 a3 i u0 u1 u2 u3
  have C := fun i j => comp_down (p := sel a0 a1 a2 a3 18446744073709551615 i) (q := sel a0 a1 a2 a3 18446744073709551615 j) (S i).1 (S j).1 hst
  have C4 := comp_down (p := sel a0 a1 a2 a3 18446744073709551615 (m / 64 + 3)) (q := 18446744073709551615) (S _).1 (by omega) hst
  rw [n4_comp (C _ _) (C _ _) (C _ _) C4] at h
  simp only [(S _).2] at h
  rw [show 18446744073709551615 - 18446744073709551615 = 0 by omega] at h
  rw [n4_down _ _ _ _ 0 hst, n4_sel _ _ _ _ (by omega) (by omega) (by omega) (by omega) _ (by omega), Nat.div_div_eq_div_mul, ← Nat.pow_add, show 64 * (m / 64) + m % 64 = m by omega, Nat.zero_mul,
    show n4 (18446744073709551615 - a0) (18446744073709551615 - a1) (18446744073709551615 - a2) (18446744073709551615 - a3) = 115792089237316195423570985008687907853269984665640564039457584007913129639935 - x % 115792089237316195423570985008687907853269984665640564039457584007913129639936 by rw [← na]; unfold n4; omega] at h
  exact h
end Go.Proofs.YtmhgnlngcjckbaaDoor
namespace Go.Proofs.YtmhgnlngcjckbaaDoor
open Go.RowKit

theorem bdec {p q : Prop} [Decidable p] [Decidable q] (h : p ↔ q) : decide p = decide q := by simp [h]

theorem xor_ones {a : Nat} (h : a < 18446744073709551616) : bits .xor .u64 IntKind.u64.max (a : Int) = ((18446744073709551615 - a : Nat) : Int) := by
  have e : (18446744073709551615 : Nat) ^^^ a = 18446744073709551615 - a := by
    apply Nat.eq_of_testBit_eq
    intro i
    rw [Nat.testBit_xor, show 18446744073709551615 - a = 2 ^ 64 - (a + 1) by omega, Nat.testBit_two_pow_sub_succ (by omega), show (18446744073709551615 : Nat) = 2 ^ 64 - 1 by decide, Nat.testBit_two_pow_sub_one]
    by_cases hi : i < 64
    · simp [hi]
    · have : a.testBit i = false := Nat.testBit_lt_two_pow (Nat.lt_of_lt_of_le h (by have := Nat.pow_le_pow_right (n := 2) (by omega) (show 64 ≤ i by omega); omega))
      simp [hi, this]
  have := bits_xor_u64_nat 18446744073709551615 a (by omega) h
  rw [e] at this
  exact this

set_option maxRecDepth 100000 in
set_option maxHeartbeats 1000000 in
theorem shr_walk (a0 a1 a2 a3 b0 b1 b2 b3 p0 p1 p2 p3 : Nat) (w : World)
    (hP : ∀ w, Calls Tryd.prog 54 #[.agg #[.int .u64 a0, .int .u64 a1, .int .u64 a2, .int .u64 a3], .agg #[.int .u64 b0, .int .u64 b1, .int .u64 b2, .int .u64 b3], .int .u64 0] w fun e w' =>
      e = .returned (.agg #[.int .u64 p0, .int .u64 p1, .int .u64 p2, .int .u64 p3]) ∧ Below w.heap.size w w') :
    Calls Tryd.prog 36 #[.agg #[.int .u64 a0, .int .u64 a1, .int .u64 a2, .int .u64 a3], .agg #[.int .u64 b0, .int .u64 b1, .int .u64 b2, .int .u64 b3]] w fun e w' =>
      e = .returned (.agg #[.int .u64 p0, .int .u64 p1, .int .u64 p2, .int .u64 p3]) ∧ Below w.heap.size w w' := by
  go_enter Tryd.func36, Tryd.ntmps36
  go_wp2_with fail
  refine (hP _).mono ?_
  rintro e w1 ⟨rfl, hb⟩
  obtain ⟨⟨q0, q1, q2, q3⟩, ⟨f0, f1, f2, f3⟩, hz, hb'⟩ := after4 (w := w) (B := w.heap.size) (w.heap.size + 1 + 1) hb (by go_grown) (by simp; omega) (by simp) (by go_cell) (by go_cell) (by go_cell) (by go_cell) (by go_cell) (by go_cell) (by go_cell) (by go_cell)
  clear hb
  go_wp2
  refine bodyPost_ret (by simp [results, Tryd.results36, go_sem, q0, q1, q2, q3]; try rfl) rfl ⟨rfl, ?_⟩
  go_grown

-- WHAT Shr COMES TO.
theorem shr_any (k x : Nat) (w : World) :
    Calls Tryd.prog 36 #[wv k, wv x] w fun e w' => e = .returned (wv (x % 115792089237316195423570985008687907853269984665640564039457584007913129639936 / 2 ^ min (k % 115792089237316195423570985008687907853269984665640564039457584007913129639936) 256)) ∧ Below w.heap.size w w' := by
  have hP := fun w => down0_any k x w
  obtain ⟨k0, k1, k2, k3, -, -, -, -, ek, -⟩ := wv_parts k
  obtain ⟨a0, a1, a2, a3, -, -, -, -, ea, -⟩ := wv_parts x
  obtain ⟨p0, p1, p2, p3, -, -, -, -, ep, -⟩ := wv_parts (x % 115792089237316195423570985008687907853269984665640564039457584007913129639936 / 2 ^ min (k % 115792089237316195423570985008687907853269984665640564039457584007913129639936) 256)
  rw [ek, ea, ep] at hP
  rw [ek, ea, ep]
  exact shr_walk k0 k1 k2 k3 a0 a1 a2 a3 p0 p1 p2 p3 w hP

end Go.Proofs.YtmhgnlngcjckbaaDoor
namespace Go.Proofs.YtmhgnlngcjckbaaDoor
open Go.RowKit

/-- A word's parts. -/
def pw (x : Nat) : Array Value := #[.int .u64 ((x % 18446744073709551616 : Nat) : Int), .int .u64 ((x / 18446744073709551616 % 18446744073709551616 : Nat) : Int), .int .u64 ((x / 340282366920938463463374607431768211456 % 18446744073709551616 : Nat) : Int), .int .u64 ((x / 6277101735386680763835789423207666416102355444464034512896 % 18446744073709551616 : Nat) : Int)]
theorem wv_pw (x : Nat) : wv x = .agg (pw x) := rfl
theorem pw_size (x : Nat) : (pw x).size = 4 := rfl
theorem pw_one (x : Nat) : (pw x).all (·.oneCell') = true := by simp [pw, Value.oneCell']
theorem infoWord : (Tryd.prog.info? 24).map (·.size) = some 4 := by kernel_rfl

/-- A slice of n digits with the number V, wherever it lies. -/
def DgV (n V : Nat) (v : Value) (w : World) : Prop := ∃ (b cap : Nat) (d : Nat → Nat), v = .slice (some ⟨b, 0, none⟩) n cap ∧ Dg w b n d ∧ (∀ j, j < n → d j < 65536) ∧ vd d n = V
/-- All blocks but one are as they were. -/
def Rb (S : Nat) (w w' : World) : Prop := w.heap.size ≤ w'.heap.size ∧ ∀ k, k < w.heap.size → k ≠ S → w'.heap[k]? = w.heap[k]?
theorem Rb.refl (S : Nat) (w : World) : Rb S w w := ⟨Nat.le_refl _, fun _ _ _ => rfl⟩
theorem Rb.of {S : Nat} {w w' : World} (h : Below w.heap.size w w') : Rb S w w' := ⟨h.size, fun _ hk _ => h.block _ hk⟩
theorem Rb.row {S g : Nat} {w : World} (cs : Array Value) (hg : g = S) : Rb S w (w.setRow g cs) := by
  subst hg
  exact ⟨by simp, fun k _ hk => setRow_other _ _ _ _ hk⟩
/-- .. that lies elsewhere stays. -/
def DgS (S n V : Nat) (v : Value) (w : World) : Prop := ∃ (b cap : Nat) (d : Nat → Nat), v = .slice (some ⟨b, 0, none⟩) n cap ∧ b ≠ S ∧ Dg w b n d ∧ (∀ j, j < n → d j < 65536) ∧ vd d n = V
theorem DgS.keep {S n V : Nat} {v : Value} {w w' : World} (hR : Rb S w w') (h : DgS S n V v w) : DgS S n V v w' := by
  obtain ⟨b, cap, d, rfl, hne, hD, h1, h2⟩ := h
  exact ⟨b, cap, d, rfl, hne, ⟨Nat.lt_of_lt_of_le hD.1 hR.1, fun j hj => (World.cell?_of_block (w := w) (a := ⟨b, j, none⟩) (hR.2 b hD.1 hne)).trans (hD.2 j hj)⟩, h1, h2⟩

/-- .. and if that one holds the word V, it goes on to. -/
def Rs (S V : Nat) (w w' : World) : Prop := Rb S w w' ∧ (w.heap[S]? = some (.cells (pw V) 24 (0, 0)) → w'.heap[S]? = some (.cells (pw V) 24 (0, 0)))
theorem Rs.refl (S V : Nat) (w : World) : Rs S V w w := ⟨Rb.refl _ _, id⟩
theorem Rs.of {S V : Nat} {w w' : World} (hS : S < w.heap.size) (h : Below w.heap.size w w') : Rs S V w w' := ⟨Rb.of h, fun e => (h.block _ hS).trans e⟩
theorem Rs.row {S V : Nat} {w : World} {cs : Array Value} (hg : w.heap[S]? = some (.cells cs 24 (0, 0))) : Rs S V w (w.setRow S (pw V)) := ⟨Rb.row _ rfl, fun _ => setRow_heap _ _ _ _ _ _ hg⟩
theorem mk_step {S n V : Nat} {w w' : World} {e : Ending} (hS : S < w.heap.size) (h : MkDg n V w e w') : ∃ v, e = .returned v ∧ Below w.heap.size w w' ∧ DgS S n V v w' := by
  obtain ⟨b, cap, d, rfl, hb, hD, h1, h2, hB⟩ := h
  exact ⟨_, rfl, hB, b, cap, d, rfl, by omega, hD, h1, h2⟩

/-- The worlds of a call on two words that lie in the call's first two blocks, its result in the third. -/
def CB (w : World) (x y : Nat) (wx : World) : Prop :=
  Below w.heap.size w wx ∧ wx.heap[w.heap.size]? = some (.cells (pw x) 24 (0, 0)) ∧ wx.heap[w.heap.size + 1]? = some (.cells (pw y) 24 (0, 0)) ∧ ∃ cs : Array Value, cs.size = 4 ∧ wx.heap[w.heap.size + 1 + 1]? = some (.cells cs 24 (0, 0))
theorem CB.lt {w wx : World} {x y : Nat} (h : CB w x y wx) : w.heap.size + 1 + 1 < wx.heap.size := by
  obtain ⟨-, -, -, cs, -, hc⟩ := h
  exact (Array.getElem?_eq_some_iff.1 hc).1
theorem CB.below {w wx w' : World} {x y : Nat} (h : CB w x y wx) (hb : Below wx.heap.size wx w') : CB w x y w' := by
  have hl := h.lt
  obtain ⟨h0, h1, h2, cs, hs, hc⟩ := h
  exact ⟨h0.trans (hb.mono h0.size), (hb.block _ (by omega)).trans h1, (hb.block _ (by omega)).trans h2, cs, hs, (hb.block _ hl).trans hc⟩
theorem CB.row {w wx : World} {x y : Nat} (h : CB w x y wx) (cs : Array Value) (hs : cs.size = 4) : CB w x y (wx.setRow (w.heap.size + 1 + 1) cs) := by
  obtain ⟨h0, h1, h2, cs0, hs0, hc⟩ := h
  exact ⟨below_setRow h0 (by omega) _, (setRow_other _ _ _ _ (by omega)).trans h1, (setRow_other _ _ _ _ (by omega)).trans h2, cs, hs, setRow_heap _ _ _ _ _ _ hc⟩
theorem load_pw {g x : Nat} {w : World} (hg : w.heap[g]? = some (.cells (pw x) 24 (0, 0))) : (Instr.loadAt 24 (.pointer (some ⟨g, 0, none⟩))).run Tryd.prog w = .ok (wv x) w := by
  simp only [Instr.loadAt, Instr.sureAddr, Sem.run_bind, Sem.run_pure, Result.andThen_ok, run_loadVar_row w g 24 24 (pw x) (0, 0) _ hg Tryd.underlying24 rfl infoWord]
  rfl
theorem store_pw {g x : Nat} {w : World} {cs : Array Value} (hs : cs.size = 4) (hg : w.heap[g]? = some (.cells cs 24 (0, 0))) : (Instr.storeAt 24 (.pointer (some ⟨g, 0, none⟩)) (wv x)).run Tryd.prog w = .ok () (w.setRow g (pw x)) := by
  rw [wv_pw]
  simp only [Instr.storeAt, Instr.sureAddr, Sem.run_bind, Sem.run_pure, Result.andThen_ok, run_storeVar_row w g 24 24 cs (pw x) hg infoWord hs (pw_one x)]
theorem run_store {P : Program} {a : Act} {o : Oper} {w w' : World} (t : TypeId) (p q : Operand) (u v : Value) (ho : o.op = .store t p q) (hp : a.eval p = u) (hq : a.eval q = v) (h : (Instr.storeAt t u v).run P w = .ok () w') : (execOp a.eval o).run P w = .ok .skip w' := by
  unfold execOp
  rw [ho]
  simp only [hp, hq, Sem.run_bind, h, Result.andThen_ok, Sem.run_pure]

set_option maxRecDepth 100000 in
set_option maxHeartbeats 2000000 in
-- WHAT add COMES TO.
theorem add_ref (x y : Nat) (w : World) :
    Calls Tryd.prog 16 #[.agg (pw x), .agg (pw y)] w fun e w' => e = .returned (wv (x + y)) ∧ Below w.heap.size w w' := by
  have E : wv (x % 115792089237316195423570985008687907853269984665640564039457584007913129639936 + y % 115792089237316195423570985008687907853269984665640564039457584007913129639936) = wv (x + y) := wv_congr (by omega)
  rw [← E]
  clear E
  go_enter Tryd.func16, Tryd.ntmps16
  go_wp2_with fail
  refine region_inv (CB w x y) (fun i v wx => match i with | 0 => v = wv x | 1 => DgS (w.heap.size + 1 + 1) 16 (x % 115792089237316195423570985008687907853269984665640564039457584007913129639936) v wx | 2 => v = wv y | 3 => DgS (w.heap.size + 1 + 1) 16 (y % 115792089237316195423570985008687907853269984665640564039457584007913129639936) v wx | 4 => DgS (w.heap.size + 1 + 1) 17 (x % 115792089237316195423570985008687907853269984665640564039457584007913129639936 + y % 115792089237316195423570985008687907853269984665640564039457584007913129639936) v wx | 5 => v = wv (x % 115792089237316195423570985008687907853269984665640564039457584007913129639936 + y % 115792089237316195423570985008687907853269984665640564039457584007913129639936) | 6 => wx.heap[(w.heap.size + 1 + 1)]? = some (.cells (pw (x % 115792089237316195423570985008687907853269984665640564039457584007913129639936 + y % 115792089237316195423570985008687907853269984665640564039457584007913129639936)) 24 (0, 0)) | _ => True) (Rs (w.heap.size + 1 + 1) (x % 115792089237316195423570985008687907853269984665640564039457584007913129639936 + y % 115792089237316195423570985008687907853269984665640564039457584007913129639936)) (by kernel_rfl) (by kernel_rfl) ?_ ?_ ?_ ?_
  · exact ⟨by go_grown, (heap3 _ _ _ _).1, (heap3 _ _ _ _).2.1, _, rfl, (heap3 _ _ _ _).2.2⟩
  · intro i v wa wb hR h
    match i, h with
    | 0, h => exact h
    | 1, h => exact DgS.keep hR.1 h
    | 2, h => exact h
    | 3, h => exact DgS.keep hR.1 h
    | 4, h => exact DgS.keep hR.1 h
    | 5, h => exact h
    | 6, h => exact hR.2 h
    | _ + 7, _ => trivial
  · refine ⟨fun a wx hC hK => ?_, fun a wx hC hK => ?_, fun a wx hC hK => ?_, fun a wx hC hK => ?_, fun a wx hC hK => ?_, fun a wx hC hK => ?_, fun a wx hC hK => ?_, trivial⟩
    · exact st_load 24 (.tmp 2) (.pointer (some ⟨w.heap.size, 0, none⟩)) (wv x) rfl (by kernel_rfl) (fun h => by cases h) (hK.1 2 (by kernel_rfl)) (load_pw hC.2.1) hC rfl (Rs.refl _ _ _)
    · have h0 : a.tmps.getD 5 undef = wv x := hK.2 ⟨0, .data⟩ (by simp) rfl _ rfl
      refine st_call 15 #[a.tmps.getD 5 undef] (by kernel_rfl) ⟨_, rfl⟩ (by kernel_rfl) ?_
      rw [h0]
      refine (digits_any x wx).mono fun e w' h => ?_
      obtain ⟨v, he, hb, hv⟩ := mk_step hC.lt h
      exact ⟨v, he, hC.below hb, hv, Rs.of hC.lt hb⟩
    · exact st_load 24 (.tmp 3) (.pointer (some ⟨w.heap.size + 1, 0, none⟩)) (wv y) rfl (by kernel_rfl) (fun h => by cases h) (hK.1 3 (by kernel_rfl)) (load_pw hC.2.2.1) hC rfl (Rs.refl _ _ _)
    · have h0 : a.tmps.getD 7 undef = wv y := hK.2 ⟨2, .data⟩ (by simp) rfl _ rfl
      refine st_call 15 #[a.tmps.getD 7 undef] (by kernel_rfl) ⟨_, rfl⟩ (by kernel_rfl) ?_
      rw [h0]
      refine (digits_any y wx).mono fun e w' h => ?_
      obtain ⟨v, he, hb, hv⟩ := mk_step hC.lt h
      exact ⟨v, he, hC.below hb, hv, Rs.of hC.lt hb⟩
    · obtain ⟨b1, c1, d1, e1, -, hD1, hl1, hv1⟩ : DgS (w.heap.size + 1 + 1) 16 (x % 115792089237316195423570985008687907853269984665640564039457584007913129639936) (a.tmps.getD 6 undef) wx := hK.2 ⟨1, .data⟩ (by simp) rfl _ rfl
      obtain ⟨b2, c2, d2, e2, -, hD2, hl2, hv2⟩ : DgS (w.heap.size + 1 + 1) 16 (y % 115792089237316195423570985008687907853269984665640564039457584007913129639936) (a.tmps.getD 8 undef) wx := hK.2 ⟨3, .data⟩ (by simp) rfl _ rfl
      refine st_call 26 #[a.tmps.getD 6 undef, a.tmps.getD 8 undef] (by kernel_rfl) ⟨_, rfl⟩ (by kernel_rfl) ?_
      rw [e1, e2]
      refine (sum_any b1 c1 b2 c2 16 16 d1 d2 (by decide) (by decide) hl1 hl2 wx hD1 hD2).mono fun e w' h => ?_
      rw [hv1, hv2] at h
      obtain ⟨v, he, hb, hv⟩ := mk_step hC.lt h
      exact ⟨v, he, hC.below hb, hv, Rs.of hC.lt hb⟩
    · obtain ⟨b1, c1, d1, e1, -, hD1, hl1, hv1⟩ : DgS (w.heap.size + 1 + 1) 17 (x % 115792089237316195423570985008687907853269984665640564039457584007913129639936 + y % 115792089237316195423570985008687907853269984665640564039457584007913129639936) (a.tmps.getD 9 undef) wx := hK.2 ⟨4, .data⟩ (by simp) rfl _ rfl
      refine st_call 28 #[a.tmps.getD 9 undef] (by kernel_rfl) ⟨_, rfl⟩ (by kernel_rfl) ?_
      rw [e1]
      refine (word_any b1 c1 17 d1 (by decide) hl1 wx hD1).mono fun e w' h => ?_
      rw [hv1] at h
      exact ⟨_, h.1, hC.below h.2, rfl, Rs.of hC.lt h.2⟩
    · have h0 : a.tmps.getD 10 undef = wv (x % 115792089237316195423570985008687907853269984665640564039457584007913129639936 + y % 115792089237316195423570985008687907853269984665640564039457584007913129639936) := hK.2 ⟨5, .data⟩ (by simp) rfl _ rfl
      obtain ⟨-, -, -, cs, hcs, hrow⟩ := id hC
      exact st_store (by kernel_rfl) (run_store 24 (.tmp 4) (.tmp 10) _ _ rfl (hK.1 4 (by kernel_rfl)) h0 (store_pw hcs hrow)) (hC.row _ rfl) (setRow_heap _ _ _ _ _ _ hrow) (Rs.row hrow)
  · intro f wx hC hf
    have h6 : wx.heap[(w.heap.size + 1 + 1)]? = some (.cells (pw (x % 115792089237316195423570985008687907853269984665640564039457584007913129639936 + y % 115792089237316195423570985008687907853269984665640564039457584007913129639936)) 24 (0, 0)) := hf 6 _ rfl
    generalize hA : putAll _ _ _ = A
    have h4 : A.tmps.getD 4 undef = Value.pointer (some ⟨(w.heap.size + 1 + 1), 0, none⟩) := by subst hA; kernel_rfl
    have hd : A.defers = [] := by subst hA; kernel_rfl
    clear hA hf
    go_wp2
    (try simp only [Exit.inBlock, Exit.then])
    exact bodyPost_ret (v := .agg (pw (x % 115792089237316195423570985008687907853269984665640564039457584007913129639936 + y % 115792089237316195423570985008687907853269984665640564039457584007913129639936))) (results_cell_row (p := 4) rfl _ _ (w.heap.size + 1 + 1) 24 _ (0, 0) _ h4 h6 Tryd.underlying24 rfl infoWord) hd ⟨rfl, hC.1⟩

set_option maxRecDepth 100000 in
set_option maxHeartbeats 2000000 in
-- WHAT mul COMES TO.
theorem mul_ref (x y : Nat) (w : World) :
    Calls Tryd.prog 17 #[.agg (pw x), .agg (pw y)] w fun e w' => e = .returned (wv (x * y)) ∧ Below w.heap.size w w' := by
  have E : wv (x % 115792089237316195423570985008687907853269984665640564039457584007913129639936 * (y % 115792089237316195423570985008687907853269984665640564039457584007913129639936)) = wv (x * y) := wv_congr (by rw [← Nat.mul_mod])
  rw [← E]
  clear E
  go_enter Tryd.func17, Tryd.ntmps17
  go_wp2_with fail
  refine region_inv (CB w x y) (fun i v wx => match i with | 0 => v = wv x | 1 => DgS (w.heap.size + 1 + 1) 16 (x % 115792089237316195423570985008687907853269984665640564039457584007913129639936) v wx | 2 => v = wv y | 3 => DgS (w.heap.size + 1 + 1) 16 (y % 115792089237316195423570985008687907853269984665640564039457584007913129639936) v wx | 4 => DgS (w.heap.size + 1 + 1) 32 (x % 115792089237316195423570985008687907853269984665640564039457584007913129639936 * (y % 115792089237316195423570985008687907853269984665640564039457584007913129639936)) v wx | 5 => v = wv (x % 115792089237316195423570985008687907853269984665640564039457584007913129639936 * (y % 115792089237316195423570985008687907853269984665640564039457584007913129639936)) | 6 => wx.heap[(w.heap.size + 1 + 1)]? = some (.cells (pw (x % 115792089237316195423570985008687907853269984665640564039457584007913129639936 * (y % 115792089237316195423570985008687907853269984665640564039457584007913129639936))) 24 (0, 0)) | _ => True) (Rs (w.heap.size + 1 + 1) (x % 115792089237316195423570985008687907853269984665640564039457584007913129639936 * (y % 115792089237316195423570985008687907853269984665640564039457584007913129639936))) (by kernel_rfl) (by kernel_rfl) ?_ ?_ ?_ ?_
  · exact ⟨by go_grown, (heap3 _ _ _ _).1, (heap3 _ _ _ _).2.1, _, rfl, (heap3 _ _ _ _).2.2⟩
  · intro i v wa wb hR h
    match i, h with
    | 0, h => exact h
    | 1, h => exact DgS.keep hR.1 h
    | 2, h => exact h
    | 3, h => exact DgS.keep hR.1 h
    | 4, h => exact DgS.keep hR.1 h
    | 5, h => exact h
    | 6, h => exact hR.2 h
    | _ + 7, _ => trivial
  · refine ⟨fun a wx hC hK => ?_, fun a wx hC hK => ?_, fun a wx hC hK => ?_, fun a wx hC hK => ?_, fun a wx hC hK => ?_, fun a wx hC hK => ?_, fun a wx hC hK => ?_, trivial⟩
    · exact st_load 24 (.tmp 2) (.pointer (some ⟨w.heap.size, 0, none⟩)) (wv x) rfl (by kernel_rfl) (fun h => by cases h) (hK.1 2 (by kernel_rfl)) (load_pw hC.2.1) hC rfl (Rs.refl _ _ _)
    · have h0 : a.tmps.getD 5 undef = wv x := hK.2 ⟨0, .data⟩ (by simp) rfl _ rfl
      refine st_call 15 #[a.tmps.getD 5 undef] (by kernel_rfl) ⟨_, rfl⟩ (by kernel_rfl) ?_
      rw [h0]
      refine (digits_any x wx).mono fun e w' h => ?_
      obtain ⟨v, he, hb, hv⟩ := mk_step hC.lt h
      exact ⟨v, he, hC.below hb, hv, Rs.of hC.lt hb⟩
    · exact st_load 24 (.tmp 3) (.pointer (some ⟨w.heap.size + 1, 0, none⟩)) (wv y) rfl (by kernel_rfl) (fun h => by cases h) (hK.1 3 (by kernel_rfl)) (load_pw hC.2.2.1) hC rfl (Rs.refl _ _ _)
    · have h0 : a.tmps.getD 7 undef = wv y := hK.2 ⟨2, .data⟩ (by simp) rfl _ rfl
      refine st_call 15 #[a.tmps.getD 7 undef] (by kernel_rfl) ⟨_, rfl⟩ (by kernel_rfl) ?_
      rw [h0]
      refine (digits_any y wx).mono fun e w' h => ?_
      obtain ⟨v, he, hb, hv⟩ := mk_step hC.lt h
      exact ⟨v, he, hC.below hb, hv, Rs.of hC.lt hb⟩
    · obtain ⟨b1, c1, d1, e1, -, hD1, hl1, hv1⟩ : DgS (w.heap.size + 1 + 1) 16 (x % 115792089237316195423570985008687907853269984665640564039457584007913129639936) (a.tmps.getD 6 undef) wx := hK.2 ⟨1, .data⟩ (by simp) rfl _ rfl
      obtain ⟨b2, c2, d2, e2, -, hD2, hl2, hv2⟩ : DgS (w.heap.size + 1 + 1) 16 (y % 115792089237316195423570985008687907853269984665640564039457584007913129639936) (a.tmps.getD 8 undef) wx := hK.2 ⟨3, .data⟩ (by simp) rfl _ rfl
      refine st_call 27 #[a.tmps.getD 6 undef, a.tmps.getD 8 undef] (by kernel_rfl) ⟨_, rfl⟩ (by kernel_rfl) ?_
      rw [e1, e2]
      refine (product_digits b1 c1 b2 c2 16 16 d1 d2 (by decide) (by decide) hl1 hl2 wx hD1 hD2).mono fun e w' h => ?_
      rw [hv1, hv2] at h
      obtain ⟨v, he, hb, hv⟩ := mk_step hC.lt h
      exact ⟨v, he, hC.below hb, hv, Rs.of hC.lt hb⟩
    · obtain ⟨b1, c1, d1, e1, -, hD1, hl1, hv1⟩ : DgS (w.heap.size + 1 + 1) 32 (x % 115792089237316195423570985008687907853269984665640564039457584007913129639936 * (y % 115792089237316195423570985008687907853269984665640564039457584007913129639936)) (a.tmps.getD 9 undef) wx := hK.2 ⟨4, .data⟩ (by simp) rfl _ rfl
      refine st_call 28 #[a.tmps.getD 9 undef] (by kernel_rfl) ⟨_, rfl⟩ (by kernel_rfl) ?_
      rw [e1]
      refine (word_any b1 c1 32 d1 (by decide) hl1 wx hD1).mono fun e w' h => ?_
      rw [hv1] at h
      exact ⟨_, h.1, hC.below h.2, rfl, Rs.of hC.lt h.2⟩
    · have h0 : a.tmps.getD 10 undef = wv (x % 115792089237316195423570985008687907853269984665640564039457584007913129639936 * (y % 115792089237316195423570985008687907853269984665640564039457584007913129639936)) := hK.2 ⟨5, .data⟩ (by simp) rfl _ rfl
      obtain ⟨-, -, -, cs, hcs, hrow⟩ := id hC
      exact st_store (by kernel_rfl) (run_store 24 (.tmp 4) (.tmp 10) _ _ rfl (hK.1 4 (by kernel_rfl)) h0 (store_pw hcs hrow)) (hC.row _ rfl) (setRow_heap _ _ _ _ _ _ hrow) (Rs.row hrow)
  · intro f wx hC hf
    have h6 : wx.heap[(w.heap.size + 1 + 1)]? = some (.cells (pw (x % 115792089237316195423570985008687907853269984665640564039457584007913129639936 * (y % 115792089237316195423570985008687907853269984665640564039457584007913129639936))) 24 (0, 0)) := hf 6 _ rfl
    generalize hA : putAll _ _ _ = A
    have h4 : A.tmps.getD 4 undef = Value.pointer (some ⟨(w.heap.size + 1 + 1), 0, none⟩) := by subst hA; kernel_rfl
    have hd : A.defers = [] := by subst hA; kernel_rfl
    clear hA hf
    go_wp2
    (try simp only [Exit.inBlock, Exit.then])
    exact bodyPost_ret (v := .agg (pw (x % 115792089237316195423570985008687907853269984665640564039457584007913129639936 * (y % 115792089237316195423570985008687907853269984665640564039457584007913129639936)))) (results_cell_row (p := 4) rfl _ _ (w.heap.size + 1 + 1) 24 _ (0, 0) _ h4 h6 Tryd.underlying24 rfl infoWord) hd ⟨rfl, hC.1⟩

end Go.Proofs.YtmhgnlngcjckbaaDoor
namespace Go.Proofs.YtmhgnlngcjckbaaDoor
open Go.RowKit

/-- A guess that is not too small and whose times fit in is the quotient. -/
theorem quot_of {A y q : Nat} (hy : 0 < y) (h1 : q * y ≤ A) (h2 : A / y ≤ q) : q = A / y :=
  Nat.le_antisymm ((Nat.le_div_iff_mul_le hy).2 h1) h2

/-- Half a quotient: the guess q, and what it leaves, r. -/
structure Half (y1 y0 v u q r : Nat) : Prop where
  split : q * y1 + r = v
  least : (v * 4294967296 + u) / (4294967296 * y1 + y0) ≤ q
  most : q ≤ 4294967297
  rest : r < 4294967296

section
variable {y1 y0 v u q r : Nat} (h31 : 2147483648 ≤ y1) (h32 : y1 < 4294967296) (hy0 : y0 < 4294967296) (hu : u < 4294967296)
include h31 h32 hy0 hu

theorem Half.start (hv : v < 4294967296 * y1 + y0) : Half y1 y0 v u (v / y1) (v % y1) := by
  have hpos : 0 < y1 := by omega
  have hd := Nat.div_add_mod v y1
  have hm := Nat.mod_lt v hpos
  refine ⟨by rw [Nat.mul_comm]; exact hd, ?_, ?_, by omega⟩
  · have hlt : v * 4294967296 + u < (v / y1 + 1) * (4294967296 * y1 + y0) := by
      have h1 : v + 1 ≤ (v / y1 + 1) * y1 := by rw [Nat.add_mul, Nat.one_mul, Nat.mul_comm]; omega
      have h2 : (v + 1) * 4294967296 ≤ (v / y1 + 1) * y1 * 4294967296 := Nat.mul_le_mul_right _ h1
      have h3 : (v / y1 + 1) * (4294967296 * y1 + y0) = (v / y1 + 1) * y1 * 4294967296 + (v / y1 + 1) * y0 := by grind
      omega
    have : (v * 4294967296 + u) / (4294967296 * y1 + y0) < v / y1 + 1 := by rw [Nat.div_lt_iff_lt_mul (by omega)]; exact hlt
    omega
  · have : v / y1 < 4294967298 := by rw [Nat.div_lt_iff_lt_mul hpos]; omega
    omega

omit hu in
theorem Half.fits (h : Half y1 y0 v u q r) (h2 : q * y0 ≤ 4294967296 * r + u) : q = (v * 4294967296 + u) / (4294967296 * y1 + y0) := by
  refine quot_of (by omega) ?_ h.least
  have h3 : q * (4294967296 * y1 + y0) = (q * y1) * 4294967296 + q * y0 := by grind
  have h4 := h.split
  omega

omit h31 h32 hy0 in
theorem Half.less (h : Half y1 y0 v u q r) (hv : v < 4294967296 * y1 + y0) (ht : 4294967296 ≤ q ∨ 4294967296 * r + u < q * y0) : (v * 4294967296 + u) / (4294967296 * y1 + y0) < q := by
  rcases ht with ht | ht
  · refine Nat.lt_of_lt_of_le ?_ ht
    rw [Nat.div_lt_iff_lt_mul (by omega)]
    omega
  · rw [Nat.div_lt_iff_lt_mul (by omega)]
    have h3 : q * (4294967296 * y1 + y0) = (q * y1) * 4294967296 + q * y0 := by grind
    have h4 := h.split
    omega

omit h31 h32 hy0 in
theorem Half.down {p : Nat} (h : Half y1 y0 v u (p + 1) r) (hv : v < 4294967296 * y1 + y0) (ht : 4294967296 ≤ p + 1 ∨ 4294967296 * r + u < (p + 1) * y0) (hr : r + y1 < 4294967296) : Half y1 y0 v u p (r + y1) := by
  have hl := h.less hu hv ht
  have h4 := h.split
  have h5 := h.most
  exact ⟨by rw [Nat.add_mul] at h4; omega, by omega, by omega, hr⟩

omit h31 h32 in
theorem Half.ends {p : Nat} (h : Half y1 y0 v u (p + 1) r) (hv : v < 4294967296 * y1 + y0) (ht : 4294967296 ≤ p + 1 ∨ 4294967296 * r + u < (p + 1) * y0) (hr : 4294967296 ≤ r + y1) : p = (v * 4294967296 + u) / (4294967296 * y1 + y0) := by
  have hl := h.less hu hv ht
  have h4 := h.split
  have h5 := h.most
  refine quot_of (by omega) ?_ (by omega)
  have h3 : p * (4294967296 * y1 + y0) = (p * y1) * 4294967296 + p * y0 := by grind
  have h6 : p * y0 ≤ 4294967296 * 4294967295 := Nat.mul_le_mul (by omega) (by omega)
  rw [Nat.add_mul] at h4
  omega

omit h31 h32 hy0 in
theorem Half.pos (h : Half y1 y0 v u q r) (hv : v < 4294967296 * y1 + y0) (ht : 4294967296 ≤ q ∨ 4294967296 * r + u < q * y0) : 0 < q := by
  exact Nat.lt_of_le_of_lt (Nat.zero_le _) (h.less hu hv ht)
end

/-- Both halves are the whole. -/
theorem halves {y hi u1 u0 : Nat} (hy : 0 < y) :
    (hi * 4294967296 + u1) / y * 4294967296 + ((hi * 4294967296 + u1) % y * 4294967296 + u0) / y = (hi * 18446744073709551616 + (u1 * 4294967296 + u0)) / y := by
  have hd := Nat.div_add_mod (hi * 4294967296 + u1) y
  have e : hi * 18446744073709551616 + (u1 * 4294967296 + u0) = (hi * 4294967296 + u1) * 4294967296 + u0 := by omega
  rw [e]
  have e2 : (hi * 4294967296 + u1) * 4294967296 + u0 = y * ((hi * 4294967296 + u1) / y * 4294967296) + ((hi * 4294967296 + u1) % y * 4294967296 + u0) := by
    have : (hi * 4294967296 + u1) * 4294967296 = (y * ((hi * 4294967296 + u1) / y) + (hi * 4294967296 + u1) % y) * 4294967296 := by rw [hd]
    rw [this]
    grind
  rw [e2, Nat.mul_add_div hy]
end Go.Proofs.YtmhgnlngcjckbaaDoor
namespace Go.Proofs.YtmhgnlngcjckbaaDoor
open Go.RowKit

/-- What Div64 leaves: the quotient; a rest that nobody asks for. -/
def DivPost (q : Nat) (w : World) (e : Ending) (w' : World) : Prop := (∃ r : Int, e = .returned (.tuple #[.int .u64 (q : Int), .int .u64 r])) ∧ w = w'

theorem divpost_mk {q : Nat} {z r : Int} {w : World} (h : z = (q : Int)) : DivPost q w (.returned (.tuple #[.int .u64 z, .int .u64 r])) w := ⟨⟨r, by rw [h]⟩, rfl⟩

theorem div64_fin {hi lo y y1 y0 u1 u0 P Q : Nat} (hy : y = 4294967296 * y1 + y0) (hlo : lo = 4294967296 * u1 + u0) (_hpos : 0 < y1) (_h1 : (hi : Int) < y)
    (eP : P = (hi * 4294967296 + u1) / y) (eQ : Q = ((hi * 4294967296 + u1) % y * 4294967296 + u0) / (4294967296 * y1 + y0)) : P * 4294967296 + Q = (hi * 18446744073709551616 + lo) / y := by
  rw [← hy] at eQ
  rw [eP, eQ, halves (by omega), hlo, Nat.mul_comm 4294967296 u1]

set_option maxRecDepth 100000 in
set_option maxHeartbeats 8000000 in
theorem div64_big (hi lo y y1 y0 u1 u0 : Nat) (h0 : (0 : Int) < hi) (h1 : (hi : Int) < y) (hy : y = 4294967296 * y1 + y0) (hlo : lo = 4294967296 * u1 + u0)
    (h31 : 2147483648 ≤ y1) (h32 : y1 < 4294967296) (hy0 : y0 < 4294967296) (hu1 : u1 < 4294967296) (hu0 : u0 < 4294967296) (w : World)
    (a1 : bits .and .u64 (y : Int) 4294967295 = (y0 : Int)) (a2 : bits .and .u64 (lo : Int) 4294967295 = (u0 : Int)) (a3 : bits .or .u64 (hi : Int) 0 = (hi : Int))
    (hL : ∀ w, Calls Tryd.prog 32 #[.int .u64 y] w fun e w' => e = .returned (.int .i64 0) ∧ w = w') :
    Calls Tryd.prog 68 #[.int .u64 hi, .int .u64 lo, .int .u64 y] w (DivPost ((hi * 18446744073709551616 + lo) / y) w) := by
  have hy' : (9223372036854775808 : Int) ≤ y := by omega
  have hy'' : (y : Int) ≤ 18446744073709551615 := by omega
  have hlo' : (lo : Int) ≤ 18446744073709551615 := by omega
  have n0 : ((y : Int) == 0) = false := by simp; omega
  have n1 : ¬ (y : Int) ≤ hi := by omega
  have n2 : ((hi : Int) == 0) = false := by simp; omega
  have n3 : (0 : Int) ≤ hi := by omega
  have n4 : (hi : Int) ≤ 18446744073709551615 := by omega
  have n5 : (0 : Int) ≤ lo := by omega
  have n6 : (0 : Int) ≤ y := by omega
  have d1 : (y : Int) / 4294967296 = (y1 : Int) := by omega
  have d2 : (lo : Int) / 4294967296 = (u1 : Int) := by omega
  have d3 : (lo : Int) / 18446744073709551616 = 0 := by omega
  have m1 : (1 : Int) ≤ y1 := by omega
  have m2 : (y1 : Int) ≤ 4294967295 := by omega
  have m3 : (u1 : Int) ≤ 4294967295 := by omega
  have m4 : (u0 : Int) ≤ 4294967295 := by omega
  have m5 : (0 : Int) ≤ u1 := by omega
  have m6 : (0 : Int) ≤ u0 := by omega
  have m7 : (0 : Int) ≤ y1 := by omega
  have H31 := Lib.hid h31
  have H32 := Lib.hid h32
  have HY0 := Lib.hid hy0
  have HU1 := Lib.hid hu1
  have HU2 := Lib.hid hu0
  have HY := Lib.hid hy
  have HLO := Lib.hid hlo
  have HV1 : Hid (hi < 4294967296 * y1 + y0) := Lib.hid (by omega)
  have hq := Half.start h31 h32 hy0 hu1 HV1.out
  obtain ⟨Q, eQ⟩ : ∃ Q, Q = hi / y1 := ⟨_, rfl⟩
  obtain ⟨R, eR⟩ : ∃ R, R = hi % y1 := ⟨_, rfl⟩
  rw [← eQ, ← eR] at hq
  have eq1 : (hi : Int) / (y1 : Int) = (Q : Int) := by rw [eQ]; simp
  have eq2 : IntKind.u64.wrap ((hi : Int) - IntKind.u64.wrap ((Q : Int) * (y1 : Int))) = (R : Int) := by
    have h := hq.split
    rw [← Int.natCast_mul, IntKind.wrap_u64, IntKind.wrap_u64]
    omega
  have bQ0 : (0 : Int) ≤ Q := by omega
  have bQ1 : (Q : Int) ≤ 4294967297 := by have := hq.most; omega
  have HQ0 := Lib.hid hq
  clear hq eQ eR hy hlo h31 h32 hy0 hu1 hu0 hy' 
  go_enter Tryd.func68, Tryd.ntmps68
  go_wp2_with fail
  refine (hL _).mono ?_
  rintro e w' ⟨rfl, rfl⟩
  go_wp2_with fail
  go_loop [15, 16] (fun a b => ∃ q r : Nat, a = .int .u64 q ∧ b = .int .u64 r ∧ Hid (Half y1 y0 hi u1 q r)) (fun a _ => (intOf a).toNat)
  case atStart => exact ⟨_, _, rfl, rfl, HQ0⟩
  case round =>
    obtain ⟨q, r, rfl, rfl, H1⟩ := hrel
    obtain ⟨m, hm⟩ : ∃ m : Nat, m = q * y0 := ⟨_, rfl⟩
    have r0 : (0 : Int) ≤ r := by omega
    have r1 : (r : Int) < 4294967296 := by have := H1.out.rest; omega
    have q0 : (0 : Int) ≤ q := by omega
    have q1 : (q : Int) ≤ 4294967297 := by have := H1.out.most; omega
    by_cases hbig : 4294967296 ≤ q
    · have t0 : (4294967296 : Int) ≤ q := by omega
      have ht : Hid (4294967296 ≤ q ∨ 4294967296 * r + u1 < q * y0) := Lib.hid (Or.inl hbig)
      have hqp : Hid (q = (q - 1) + 1) := Lib.hid (by omega)
      clear hbig hm
      by_cases hr : r + y1 < 4294967296
      · have t1 : ¬ (4294967296 : Int) ≤ r + y1 := by omega
        go_wp2
        go_round
        case rel => exact ⟨q - 1, r + y1, congrArg (Value.int .u64) (by have := hqp.out; omega), by go_num, Lib.hid (Half.down (p := q - 1) HU1.out (by rw [← hqp.out]; exact H1.out) HV1.out (by rw [← hqp.out]; exact ht.out) hr)⟩
        case measure => simp [intOf]; have := hqp.out; omega
      · have t1 : (4294967296 : Int) ≤ r + y1 := by omega
        obtain ⟨p, ep⟩ : ∃ p, p = q - 1 := ⟨_, rfl⟩
        have HQ1 := Lib.hid (Half.ends (p := q - 1) HY0.out HU1.out (by rw [← hqp.out]; exact H1.out) HV1.out (by rw [← hqp.out]; exact ht.out) (by omega))
        rw [← ep] at HQ1
        have hp : (q : Int) - 1 = (p : Int) := by have := hqp.out; omega
        clear ep
        clear hr
        obtain ⟨v, ev⟩ : ∃ v, v = (hi * 4294967296 + u1) % y := ⟨_, rfl⟩
        have hv : v < y := by rw [ev]; exact Nat.mod_lt _ (by omega)
        have EP : Hid (p = (hi * 4294967296 + u1) / y) := Lib.hid (by rw [HY.out]; exact HQ1.out)
        have tv : IntKind.u64.wrap (IntKind.u64.wrap (IntKind.u64.wrap ((hi : Int) * 4294967296) + (u1 : Int)) - IntKind.u64.wrap ((p : Int) * (y : Int))) = (v : Int) := by
          have hd := Nat.div_add_mod (hi * 4294967296 + u1) y
          rw [← EP.out, ← ev, Nat.mul_comm] at hd
          rw [← Int.natCast_mul]
          generalize p * y = m at *
          simp only [IntKind.wrap_u64]
          omega
        have EV := Lib.hid ev
        have c0 : (0 : Int) ≤ v := by omega
        have c1 : (v : Int) ≤ 18446744073709551615 := by omega
        have HV2 : Hid (v < 4294967296 * y1 + y0) := Lib.hid (by rw [← HY.out]; exact hv)
        have g5 : p < 4294967296 := by
          have h3 := HU1.out
          rw [EP.out, Nat.div_lt_iff_lt_mul (by omega)]
          omega
        have b5 : (p : Int) ≤ 4294967295 := by omega
        clear g5
        have b6 : (0 : Int) ≤ p := by omega
        have hq2 := Half.start H31.out H32.out HY0.out HU2.out HV2.out
        obtain ⟨Q2, eQ2⟩ : ∃ Q, Q = v / y1 := ⟨_, rfl⟩
        obtain ⟨R2, eR2⟩ : ∃ R, R = v % y1 := ⟨_, rfl⟩
        rw [← eQ2, ← eR2] at hq2
        have eq3 : (v : Int) / (y1 : Int) = (Q2 : Int) := by rw [eQ2]; simp
        have eq4 : IntKind.u64.wrap ((v : Int) - IntKind.u64.wrap ((Q2 : Int) * (y1 : Int))) = (R2 : Int) := by
          have h := hq2.split
          rw [← Int.natCast_mul, IntKind.wrap_u64, IntKind.wrap_u64]
          omega
        have bQ2 : (0 : Int) ≤ Q2 := by omega
        have bQ3 : (Q2 : Int) ≤ 4294967297 := by have := hq2.most; omega
        have HQ02 := Lib.hid hq2
        clear hq2 eQ2 eR2 ev hv
        go_wp2_with fail
        go_loop [18, 16] (fun a b => ∃ z rr : Nat, a = .int .u64 z ∧ b = .int .u64 rr ∧ Hid (Half y1 y0 v u0 z rr)) (fun a _ => (intOf a).toNat)
        case atStart => exact ⟨_, _, rfl, rfl, HQ02⟩
        case round =>
          obtain ⟨z, rr, rfl, rfl, H2⟩ := hrel
          obtain ⟨mm, hmm⟩ : ∃ mm : Nat, mm = z * y0 := ⟨_, rfl⟩
          have rr0 : (0 : Int) ≤ rr := by omega
          have rr1 : (rr : Int) < 4294967296 := by have := H2.out.rest; omega
          have zz0 : (0 : Int) ≤ z := by omega
          have zz1 : (z : Int) ≤ 4294967297 := by have := H2.out.most; omega
          by_cases hbigg : 4294967296 ≤ z
          · have tt0 : (4294967296 : Int) ≤ z := by omega
            have htt : Hid (4294967296 ≤ z ∨ 4294967296 * rr + u0 < z * y0) := Lib.hid (Or.inl hbigg)
            have hqpp : Hid (z = (z - 1) + 1) := Lib.hid (by omega)
            clear hbigg hmm
            by_cases hrr : rr + y1 < 4294967296
            · have tt1 : ¬ (4294967296 : Int) ≤ rr + y1 := by omega
              go_wp2
              go_round
              case rel => exact ⟨z - 1, rr + y1, congrArg (Value.int .u64) (by have := hqpp.out; omega), by go_num, Lib.hid (Half.down (p := z - 1) HU2.out (by rw [← hqpp.out]; exact H2.out) HV2.out (by rw [← hqpp.out]; exact htt.out) hrr)⟩
              case measure => simp [intOf]; have := hqpp.out; omega
            · have tt1 : (4294967296 : Int) ≤ rr + y1 := by omega
              obtain ⟨pp, epp⟩ : ∃ pp, pp = z - 1 := ⟨_, rfl⟩
              have HQ2 := Lib.hid (Half.ends (p := z - 1) HY0.out HU2.out (by rw [← hqpp.out]; exact H2.out) HV2.out (by rw [← hqpp.out]; exact htt.out) (by omega))
              rw [← epp] at HQ2
              have hpp : (z : Int) - 1 = (pp : Int) := by have := hqpp.out; omega
              clear epp
              clear hrr
              have fq := Lib.hid (div64_fin (P := p) (Q := pp) HY.out HLO.out (by have := H31.out; omega) h1 EP.out (by rw [← EV.out]; exact HQ2.out))
              have g7 : pp < 4294967296 := by
                have h := HV2.out
                have h3 := HU2.out
                have h5 := H31.out
                rw [HQ2.out, Nat.div_lt_iff_lt_mul (by omega)]
                omega
              have b7 : (pp : Int) ≤ 4294967295 := by omega
              clear g7
              have b8 : (0 : Int) ≤ pp := by omega
              go_wp2
              go_ret2
              exact divpost_mk (by have := fq.out; omega)
          · have tt0 : ¬ (4294967296 : Int) ≤ z := by omega
            have hww : IntKind.u64.wrap ((z : Int) * (y0 : Int)) = (mm : Int) := by
              have h1 : z * y0 ≤ 4294967295 * 4294967295 := Nat.mul_le_mul (by omega) (by have := HY0.out; omega)
              rw [← Int.natCast_mul, ← hmm, IntKind.wrap_u64]
              omega
            by_cases hgtt : 4294967296 * rr + u0 < mm
            · have tt2 : (4294967296 : Int) * rr + u0 < mm := by omega
              have htt : Hid (4294967296 ≤ z ∨ 4294967296 * rr + u0 < z * y0) := Lib.hid (Or.inr (by rw [← hmm]; exact hgtt))
              have hposs := H2.out.pos HU2.out HV2.out htt.out
              have hqpp : Hid (z = (z - 1) + 1) := Lib.hid (by omega)
              have zz2 : (1 : Int) ≤ z := by omega
              clear hbigg hmm hgtt hposs
              by_cases hrr : rr + y1 < 4294967296
              · have tt1 : ¬ (4294967296 : Int) ≤ rr + y1 := by omega
                go_wp2
                go_round
                case rel => exact ⟨z - 1, rr + y1, congrArg (Value.int .u64) (by have := hqpp.out; omega), by go_num, Lib.hid (Half.down (p := z - 1) HU2.out (by rw [← hqpp.out]; exact H2.out) HV2.out (by rw [← hqpp.out]; exact htt.out) hrr)⟩
                case measure => simp [intOf]; have := hqpp.out; omega
              · have tt1 : (4294967296 : Int) ≤ rr + y1 := by omega
                obtain ⟨pp, epp⟩ : ∃ pp, pp = z - 1 := ⟨_, rfl⟩
                have HQ2 := Lib.hid (Half.ends (p := z - 1) HY0.out HU2.out (by rw [← hqpp.out]; exact H2.out) HV2.out (by rw [← hqpp.out]; exact htt.out) (by omega))
                rw [← epp] at HQ2
                have hpp : (z : Int) - 1 = (pp : Int) := by have := hqpp.out; omega
                clear epp
                clear hrr
                have fq := Lib.hid (div64_fin (P := p) (Q := pp) HY.out HLO.out (by have := H31.out; omega) h1 EP.out (by rw [← EV.out]; exact HQ2.out))
                have g7 : pp < 4294967296 := by
                  have h := HV2.out
                  have h3 := HU2.out
                  have h5 := H31.out
                  rw [HQ2.out, Nat.div_lt_iff_lt_mul (by omega)]
                  omega
                have b7 : (pp : Int) ≤ 4294967295 := by omega
                clear g7
                have b8 : (0 : Int) ≤ pp := by omega
                go_wp2
                go_ret2
                exact divpost_mk (by have := fq.out; omega)
            · have tt2 : ¬ (4294967296 : Int) * rr + u0 < mm := by omega
              have HQ2 := Lib.hid (H2.out.fits H31.out H32.out HY0.out (by rw [← hmm]; omega))
              clear hbigg hmm hgtt
              have fq := Lib.hid (div64_fin (P := p) (Q := z) HY.out HLO.out (by have := H31.out; omega) h1 EP.out (by rw [← EV.out]; exact HQ2.out))
              have g7 : z < 4294967296 := by
                have h := HV2.out
                have h3 := HU2.out
                have h5 := H31.out
                rw [HQ2.out, Nat.div_lt_iff_lt_mul (by omega)]
                omega
              have b7 : (z : Int) ≤ 4294967295 := by omega
              clear g7
              have b8 : (0 : Int) ≤ z := by omega
              go_wp2
              go_ret2
              exact divpost_mk (by have := fq.out; omega)
    · have t0 : ¬ (4294967296 : Int) ≤ q := by omega
      have hw : IntKind.u64.wrap ((q : Int) * (y0 : Int)) = (m : Int) := by
        have h1 : q * y0 ≤ 4294967295 * 4294967295 := Nat.mul_le_mul (by omega) (by have := HY0.out; omega)
        rw [← Int.natCast_mul, ← hm, IntKind.wrap_u64]
        omega
      by_cases hgt : 4294967296 * r + u1 < m
      · have t2 : (4294967296 : Int) * r + u1 < m := by omega
        have ht : Hid (4294967296 ≤ q ∨ 4294967296 * r + u1 < q * y0) := Lib.hid (Or.inr (by rw [← hm]; exact hgt))
        have hpos := H1.out.pos HU1.out HV1.out ht.out
        have hqp : Hid (q = (q - 1) + 1) := Lib.hid (by omega)
        have q2 : (1 : Int) ≤ q := by omega
        clear hbig hm hgt hpos
        by_cases hr : r + y1 < 4294967296
        · have t1 : ¬ (4294967296 : Int) ≤ r + y1 := by omega
          go_wp2
          go_round
          case rel => exact ⟨q - 1, r + y1, congrArg (Value.int .u64) (by have := hqp.out; omega), by go_num, Lib.hid (Half.down (p := q - 1) HU1.out (by rw [← hqp.out]; exact H1.out) HV1.out (by rw [← hqp.out]; exact ht.out) hr)⟩
          case measure => simp [intOf]; have := hqp.out; omega
        · have t1 : (4294967296 : Int) ≤ r + y1 := by omega
          obtain ⟨p, ep⟩ : ∃ p, p = q - 1 := ⟨_, rfl⟩
          have HQ1 := Lib.hid (Half.ends (p := q - 1) HY0.out HU1.out (by rw [← hqp.out]; exact H1.out) HV1.out (by rw [← hqp.out]; exact ht.out) (by omega))
          rw [← ep] at HQ1
          have hp : (q : Int) - 1 = (p : Int) := by have := hqp.out; omega
          clear ep
          clear hr
          obtain ⟨v, ev⟩ : ∃ v, v = (hi * 4294967296 + u1) % y := ⟨_, rfl⟩
          have hv : v < y := by rw [ev]; exact Nat.mod_lt _ (by omega)
          have EP : Hid (p = (hi * 4294967296 + u1) / y) := Lib.hid (by rw [HY.out]; exact HQ1.out)
          have tv : IntKind.u64.wrap (IntKind.u64.wrap (IntKind.u64.wrap ((hi : Int) * 4294967296) + (u1 : Int)) - IntKind.u64.wrap ((p : Int) * (y : Int))) = (v : Int) := by
            have hd := Nat.div_add_mod (hi * 4294967296 + u1) y
            rw [← EP.out, ← ev, Nat.mul_comm] at hd
            rw [← Int.natCast_mul]
            generalize p * y = m at *
            simp only [IntKind.wrap_u64]
            omega
          have EV := Lib.hid ev
          have c0 : (0 : Int) ≤ v := by omega
          have c1 : (v : Int) ≤ 18446744073709551615 := by omega
          have HV2 : Hid (v < 4294967296 * y1 + y0) := Lib.hid (by rw [← HY.out]; exact hv)
          have g5 : p < 4294967296 := by
            have h3 := HU1.out
            rw [EP.out, Nat.div_lt_iff_lt_mul (by omega)]
            omega
          have b5 : (p : Int) ≤ 4294967295 := by omega
          clear g5
          have b6 : (0 : Int) ≤ p := by omega
          have hq2 := Half.start H31.out H32.out HY0.out HU2.out HV2.out
          obtain ⟨Q2, eQ2⟩ : ∃ Q, Q = v / y1 := ⟨_, rfl⟩
          obtain ⟨R2, eR2⟩ : ∃ R, R = v % y1 := ⟨_, rfl⟩
          rw [← eQ2, ← eR2] at hq2
          have eq3 : (v : Int) / (y1 : Int) = (Q2 : Int) := by rw [eQ2]; simp
          have eq4 : IntKind.u64.wrap ((v : Int) - IntKind.u64.wrap ((Q2 : Int) * (y1 : Int))) = (R2 : Int) := by
            have h := hq2.split
            rw [← Int.natCast_mul, IntKind.wrap_u64, IntKind.wrap_u64]
            omega
          have bQ2 : (0 : Int) ≤ Q2 := by omega
          have bQ3 : (Q2 : Int) ≤ 4294967297 := by have := hq2.most; omega
          have HQ02 := Lib.hid hq2
          clear hq2 eQ2 eR2 ev hv
          go_wp2_with fail
          go_loop [18, 16] (fun a b => ∃ z rr : Nat, a = .int .u64 z ∧ b = .int .u64 rr ∧ Hid (Half y1 y0 v u0 z rr)) (fun a _ => (intOf a).toNat)
          case atStart => exact ⟨_, _, rfl, rfl, HQ02⟩
          case round =>
            obtain ⟨z, rr, rfl, rfl, H2⟩ := hrel
            obtain ⟨mm, hmm⟩ : ∃ mm : Nat, mm = z * y0 := ⟨_, rfl⟩
            have rr0 : (0 : Int) ≤ rr := by omega
            have rr1 : (rr : Int) < 4294967296 := by have := H2.out.rest; omega
            have zz0 : (0 : Int) ≤ z := by omega
            have zz1 : (z : Int) ≤ 4294967297 := by have := H2.out.most; omega
            by_cases hbigg : 4294967296 ≤ z
            · have tt0 : (4294967296 : Int) ≤ z := by omega
              have htt : Hid (4294967296 ≤ z ∨ 4294967296 * rr + u0 < z * y0) := Lib.hid (Or.inl hbigg)
              have hqpp : Hid (z = (z - 1) + 1) := Lib.hid (by omega)
              clear hbigg hmm
              by_cases hrr : rr + y1 < 4294967296
              · have tt1 : ¬ (4294967296 : Int) ≤ rr + y1 := by omega
                go_wp2
                go_round
                case rel => exact ⟨z - 1, rr + y1, congrArg (Value.int .u64) (by have := hqpp.out; omega), by go_num, Lib.hid (Half.down (p := z - 1) HU2.out (by rw [← hqpp.out]; exact H2.out) HV2.out (by rw [← hqpp.out]; exact htt.out) hrr)⟩
                case measure => simp [intOf]; have := hqpp.out; omega
              · have tt1 : (4294967296 : Int) ≤ rr + y1 := by omega
                obtain ⟨pp, epp⟩ : ∃ pp, pp = z - 1 := ⟨_, rfl⟩
                have HQ2 := Lib.hid (Half.ends (p := z - 1) HY0.out HU2.out (by rw [← hqpp.out]; exact H2.out) HV2.out (by rw [← hqpp.out]; exact htt.out) (by omega))
                rw [← epp] at HQ2
                have hpp : (z : Int) - 1 = (pp : Int) := by have := hqpp.out; omega
                clear epp
                clear hrr
                have fq := Lib.hid (div64_fin (P := p) (Q := pp) HY.out HLO.out (by have := H31.out; omega) h1 EP.out (by rw [← EV.out]; exact HQ2.out))
                have g7 : pp < 4294967296 := by
                  have h := HV2.out
                  have h3 := HU2.out
                  have h5 := H31.out
                  rw [HQ2.out, Nat.div_lt_iff_lt_mul (by omega)]
                  omega
                have b7 : (pp : Int) ≤ 4294967295 := by omega
                clear g7
                have b8 : (0 : Int) ≤ pp := by omega
                go_wp2
                go_ret2
                exact divpost_mk (by have := fq.out; omega)
            · have tt0 : ¬ (4294967296 : Int) ≤ z := by omega
              have hww : IntKind.u64.wrap ((z : Int) * (y0 : Int)) = (mm : Int) := by
                have h1 : z * y0 ≤ 4294967295 * 4294967295 := Nat.mul_le_mul (by omega) (by have := HY0.out; omega)
                rw [← Int.natCast_mul, ← hmm, IntKind.wrap_u64]
                omega
              by_cases hgtt : 4294967296 * rr + u0 < mm
              · have tt2 : (4294967296 : Int) * rr + u0 < mm := by omega
                have htt : Hid (4294967296 ≤ z ∨ 4294967296 * rr + u0 < z * y0) := Lib.hid (Or.inr (by rw [← hmm]; exact hgtt))
                have hposs := H2.out.pos HU2.out HV2.out htt.out
                have hqpp : Hid (z = (z - 1) + 1) := Lib.hid (by omega)
                have zz2 : (1 : Int) ≤ z := by omega
                clear hbigg hmm hgtt hposs
                by_cases hrr : rr + y1 < 4294967296
                · have tt1 : ¬ (4294967296 : Int) ≤ rr + y1 := by omega
                  go_wp2
                  go_round
                  case rel => exact ⟨z - 1, rr + y1, congrArg (Value.int .u64) (by have := hqpp.out; omega), by go_num, Lib.hid (Half.down (p := z - 1) HU2.out (by rw [← hqpp.out]; exact H2.out) HV2.out (by rw [← hqpp.out]; exact htt.out) hrr)⟩
                  case measure => simp [intOf]; have := hqpp.out; omega
                · have tt1 : (4294967296 : Int) ≤ rr + y1 := by omega
                  obtain ⟨pp, epp⟩ : ∃ pp, pp = z - 1 := ⟨_, rfl⟩
                  have HQ2 := Lib.hid (Half.ends (p := z - 1) HY0.out HU2.out (by rw [← hqpp.out]; exact H2.out) HV2.out (by rw [← hqpp.out]; exact htt.out) (by omega))
                  rw [← epp] at HQ2
                  have hpp : (z : Int) - 1 = (pp : Int) := by have := hqpp.out; omega
                  clear epp
                  clear hrr
                  have fq := Lib.hid (div64_fin (P := p) (Q := pp) HY.out HLO.out (by have := H31.out; omega) h1 EP.out (by rw [← EV.out]; exact HQ2.out))
                  have g7 : pp < 4294967296 := by
                    have h := HV2.out
                    have h3 := HU2.out
                    have h5 := H31.out
                    rw [HQ2.out, Nat.div_lt_iff_lt_mul (by omega)]
                    omega
                  have b7 : (pp : Int) ≤ 4294967295 := by omega
                  clear g7
                  have b8 : (0 : Int) ≤ pp := by omega
                  go_wp2
                  go_ret2
                  exact divpost_mk (by have := fq.out; omega)
              · have tt2 : ¬ (4294967296 : Int) * rr + u0 < mm := by omega
                have HQ2 := Lib.hid (H2.out.fits H31.out H32.out HY0.out (by rw [← hmm]; omega))
                clear hbigg hmm hgtt
                have fq := Lib.hid (div64_fin (P := p) (Q := z) HY.out HLO.out (by have := H31.out; omega) h1 EP.out (by rw [← EV.out]; exact HQ2.out))
                have g7 : z < 4294967296 := by
                  have h := HV2.out
                  have h3 := HU2.out
                  have h5 := H31.out
                  rw [HQ2.out, Nat.div_lt_iff_lt_mul (by omega)]
                  omega
                have b7 : (z : Int) ≤ 4294967295 := by omega
                clear g7
                have b8 : (0 : Int) ≤ z := by omega
                go_wp2
                go_ret2
                exact divpost_mk (by have := fq.out; omega)
      · have t2 : ¬ (4294967296 : Int) * r + u1 < m := by omega
        have HQ1 := Lib.hid (H1.out.fits H31.out H32.out HY0.out (by rw [← hm]; omega))
        clear hbig hm hgt
        obtain ⟨v, ev⟩ : ∃ v, v = (hi * 4294967296 + u1) % y := ⟨_, rfl⟩
        have hv : v < y := by rw [ev]; exact Nat.mod_lt _ (by omega)
        have EP : Hid (q = (hi * 4294967296 + u1) / y) := Lib.hid (by rw [HY.out]; exact HQ1.out)
        have tv : IntKind.u64.wrap (IntKind.u64.wrap (IntKind.u64.wrap ((hi : Int) * 4294967296) + (u1 : Int)) - IntKind.u64.wrap ((q : Int) * (y : Int))) = (v : Int) := by
          have hd := Nat.div_add_mod (hi * 4294967296 + u1) y
          rw [← EP.out, ← ev, Nat.mul_comm] at hd
          rw [← Int.natCast_mul]
          generalize q * y = m at *
          simp only [IntKind.wrap_u64]
          omega
        have EV := Lib.hid ev
        have c0 : (0 : Int) ≤ v := by omega
        have c1 : (v : Int) ≤ 18446744073709551615 := by omega
        have HV2 : Hid (v < 4294967296 * y1 + y0) := Lib.hid (by rw [← HY.out]; exact hv)
        have g5 : q < 4294967296 := by
          have h3 := HU1.out
          rw [EP.out, Nat.div_lt_iff_lt_mul (by omega)]
          omega
        have b5 : (q : Int) ≤ 4294967295 := by omega
        clear g5
        have b6 : (0 : Int) ≤ q := by omega
        have hq2 := Half.start H31.out H32.out HY0.out HU2.out HV2.out
        obtain ⟨Q2, eQ2⟩ : ∃ Q, Q = v / y1 := ⟨_, rfl⟩
        obtain ⟨R2, eR2⟩ : ∃ R, R = v % y1 := ⟨_, rfl⟩
        rw [← eQ2, ← eR2] at hq2
        have eq3 : (v : Int) / (y1 : Int) = (Q2 : Int) := by rw [eQ2]; simp
        have eq4 : IntKind.u64.wrap ((v : Int) - IntKind.u64.wrap ((Q2 : Int) * (y1 : Int))) = (R2 : Int) := by
          have h := hq2.split
          rw [← Int.natCast_mul, IntKind.wrap_u64, IntKind.wrap_u64]
          omega
        have bQ2 : (0 : Int) ≤ Q2 := by omega
        have bQ3 : (Q2 : Int) ≤ 4294967297 := by have := hq2.most; omega
        have HQ02 := Lib.hid hq2
        clear hq2 eQ2 eR2 ev hv
        go_wp2_with fail
        go_loop [18, 16] (fun a b => ∃ z rr : Nat, a = .int .u64 z ∧ b = .int .u64 rr ∧ Hid (Half y1 y0 v u0 z rr)) (fun a _ => (intOf a).toNat)
        case atStart => exact ⟨_, _, rfl, rfl, HQ02⟩
        case round =>
          obtain ⟨z, rr, rfl, rfl, H2⟩ := hrel
          obtain ⟨mm, hmm⟩ : ∃ mm : Nat, mm = z * y0 := ⟨_, rfl⟩
          have rr0 : (0 : Int) ≤ rr := by omega
          have rr1 : (rr : Int) < 4294967296 := by have := H2.out.rest; omega
          have zz0 : (0 : Int) ≤ z := by omega
          have zz1 : (z : Int) ≤ 4294967297 := by have := H2.out.most; omega
          by_cases hbigg : 4294967296 ≤ z
          · have tt0 : (4294967296 : Int) ≤ z := by omega
            have htt : Hid (4294967296 ≤ z ∨ 4294967296 * rr + u0 < z * y0) := Lib.hid (Or.inl hbigg)
            have hqpp : Hid (z = (z - 1) + 1) := Lib.hid (by omega)
            clear hbigg hmm
            by_cases hrr : rr + y1 < 4294967296
            · have tt1 : ¬ (4294967296 : Int) ≤ rr + y1 := by omega
              go_wp2
              go_round
              case rel => exact ⟨z - 1, rr + y1, congrArg (Value.int .u64) (by have := hqpp.out; omega), by go_num, Lib.hid (Half.down (p := z - 1) HU2.out (by rw [← hqpp.out]; exact H2.out) HV2.out (by rw [← hqpp.out]; exact htt.out) hrr)⟩
              case measure => simp [intOf]; have := hqpp.out; omega
            · have tt1 : (4294967296 : Int) ≤ rr + y1 := by omega
              obtain ⟨pp, epp⟩ : ∃ pp, pp = z - 1 := ⟨_, rfl⟩
              have HQ2 := Lib.hid (Half.ends (p := z - 1) HY0.out HU2.out (by rw [← hqpp.out]; exact H2.out) HV2.out (by rw [← hqpp.out]; exact htt.out) (by omega))
              rw [← epp] at HQ2
              have hpp : (z : Int) - 1 = (pp : Int) := by have := hqpp.out; omega
              clear epp
              clear hrr
              have fq := Lib.hid (div64_fin (P := q) (Q := pp) HY.out HLO.out (by have := H31.out; omega) h1 EP.out (by rw [← EV.out]; exact HQ2.out))
              have g7 : pp < 4294967296 := by
                have h := HV2.out
                have h3 := HU2.out
                have h5 := H31.out
                rw [HQ2.out, Nat.div_lt_iff_lt_mul (by omega)]
                omega
              have b7 : (pp : Int) ≤ 4294967295 := by omega
              clear g7
              have b8 : (0 : Int) ≤ pp := by omega
              go_wp2
              go_ret2
              exact divpost_mk (by have := fq.out; omega)
          · have tt0 : ¬ (4294967296 : Int) ≤ z := by omega
            have hww : IntKind.u64.wrap ((z : Int) * (y0 : Int)) = (mm : Int) := by
              have h1 : z * y0 ≤ 4294967295 * 4294967295 := Nat.mul_le_mul (by omega) (by have := HY0.out; omega)
              rw [← Int.natCast_mul, ← hmm, IntKind.wrap_u64]
              omega
            by_cases hgtt : 4294967296 * rr + u0 < mm
            · have tt2 : (4294967296 : Int) * rr + u0 < mm := by omega
              have htt : Hid (4294967296 ≤ z ∨ 4294967296 * rr + u0 < z * y0) := Lib.hid (Or.inr (by rw [← hmm]; exact hgtt))
              have hposs := H2.out.pos HU2.out HV2.out htt.out
              have hqpp : Hid (z = (z - 1) + 1) := Lib.hid (by omega)
              have zz2 : (1 : Int) ≤ z := by omega
              clear hbigg hmm hgtt hposs
              by_cases hrr : rr + y1 < 4294967296
              · have tt1 : ¬ (4294967296 : Int) ≤ rr + y1 := by omega
                go_wp2
                go_round
                case rel => exact ⟨z - 1, rr + y1, congrArg (Value.int .u64) (by have := hqpp.out; omega), by go_num, Lib.hid (Half.down (p := z - 1) HU2.out (by rw [← hqpp.out]; exact H2.out) HV2.out (by rw [← hqpp.out]; exact htt.out) hrr)⟩
                case measure => simp [intOf]; have := hqpp.out; omega
              · have tt1 : (4294967296 : Int) ≤ rr + y1 := by omega
                obtain ⟨pp, epp⟩ : ∃ pp, pp = z - 1 := ⟨_, rfl⟩
                have HQ2 := Lib.hid (Half.ends (p := z - 1) HY0.out HU2.out (by rw [← hqpp.out]; exact H2.out) HV2.out (by rw [← hqpp.out]; exact htt.out) (by omega))
                rw [← epp] at HQ2
                have hpp : (z : Int) - 1 = (pp : Int) := by have := hqpp.out; omega
                clear epp
                clear hrr
                have fq := Lib.hid (div64_fin (P := q) (Q := pp) HY.out HLO.out (by have := H31.out; omega) h1 EP.out (by rw [← EV.out]; exact HQ2.out))
                have g7 : pp < 4294967296 := by
                  have h := HV2.out
                  have h3 := HU2.out
                  have h5 := H31.out
                  rw [HQ2.out, Nat.div_lt_iff_lt_mul (by omega)]
                  omega
                have b7 : (pp : Int) ≤ 4294967295 := by omega
                clear g7
                have b8 : (0 : Int) ≤ pp := by omega
                go_wp2
                go_ret2
                exact divpost_mk (by have := fq.out; omega)
            · have tt2 : ¬ (4294967296 : Int) * rr + u0 < mm := by omega
              have HQ2 := Lib.hid (H2.out.fits H31.out H32.out HY0.out (by rw [← hmm]; omega))
              clear hbigg hmm hgtt
              have fq := Lib.hid (div64_fin (P := q) (Q := z) HY.out HLO.out (by have := H31.out; omega) h1 EP.out (by rw [← EV.out]; exact HQ2.out))
              have g7 : z < 4294967296 := by
                have h := HV2.out
                have h3 := HU2.out
                have h5 := H31.out
                rw [HQ2.out, Nat.div_lt_iff_lt_mul (by omega)]
                omega
              have b7 : (z : Int) ≤ 4294967295 := by omega
              clear g7
              have b8 : (0 : Int) ≤ z := by omega
              go_wp2
              go_ret2
              exact divpost_mk (by have := fq.out; omega)

end Go.Proofs.YtmhgnlngcjckbaaDoor
namespace Go.Proofs.YtmhgnlngcjckbaaDoor
open Go.RowKit

theorem bitLen_bounds (x : Nat) (h : x < 18446744073709551616) (h0 : x ≠ 0) : 1 ≤ Lib.bitLen x ∧ 2 ^ (Lib.bitLen x - 1) ≤ x ∧ x < 2 ^ Lib.bitLen x := Lib.bitLenAux_bounds 64 x (by omega) h0

theorem bitLen_full (x : Nat) (h : x < 18446744073709551616) (h0 : 9223372036854775808 ≤ x) : Lib.bitLen x = 64 := by
  obtain ⟨-, h2, h3⟩ := bitLen_bounds x h (by omega)
  have h4 : ¬ Lib.bitLen x ≤ 63 := fun h => by
    have := Nat.pow_le_pow_right (n := 2) (by omega) h
    omega
  have h5 : ¬ 65 ≤ Lib.bitLen x := fun h => by
    have := Nat.pow_le_pow_right (n := 2) (by omega) (show 64 ≤ Lib.bitLen x - 1 by omega)
    omega
  omega

set_option maxRecDepth 100000 in
set_option maxHeartbeats 1000000 in
theorem div64_small (lo y : Nat) (h0 : (0 : Int) < y) (hlo : (lo : Int) ≤ 18446744073709551615) (w : World) :
    Calls Tryd.prog 68 #[.int .u64 0, .int .u64 lo, .int .u64 y] w fun e w' => e = .returned (.tuple #[.int .u64 ((lo / y : Nat) : Int), .int .u64 ((lo % y : Nat) : Int)]) ∧ w.drew = w' := by
  have n0 : ((y : Int) == 0) = false := by simp; omega
  have n1 : ¬ (y : Int) ≤ 0 := by omega
  have n2 : (1 : Int) ≤ y := by omega
  have n3 : (0 : Int) ≤ lo := by omega
  have n4 : (lo : Int) / y ≤ lo := by rw [← Int.natCast_ediv]; have := Nat.div_le_self lo y; omega
  have n5 : (0 : Int) ≤ (lo : Int) / y := Int.ediv_nonneg (by omega) (by omega)
  have n6 : IntKind.u64.wrap ((lo : Int) / y) = (lo : Int) / y := by rw [IntKind.wrap_u64]; omega
  go_enter Tryd.func68, Tryd.ntmps68
  go_wp2_with fail
  go_region
  go_wp2
  go_ret2
  exact ⟨by simp, rfl⟩

/-- What guess tells. -/
def guessN (high next b : Nat) : Nat := if b ≤ high then 18446744073709551615 else (high * 18446744073709551616 + next) / b

set_option maxRecDepth 100000 in
set_option maxHeartbeats 1000000 in
theorem guess_over (high next b : Nat) (h : (b : Int) ≤ high) (w : World) :
    Calls Tryd.prog 51 #[.int .u64 high, .int .u64 next, .int .u64 b] w fun e w' => e = .returned (.int .u64 18446744073709551615) ∧ w = w' := by
  go_enter Tryd.func51, Tryd.ntmps51
  go_wp2
  go_ret
  exact ⟨rfl, rfl⟩

set_option maxRecDepth 100000 in
set_option maxHeartbeats 1000000 in
theorem guess_under (high next b q : Nat) (h : ¬ (b : Int) ≤ high) (w w1 : World) (r : Int)
    (hD : Calls Tryd.prog 68 #[.int .u64 high, .int .u64 next, .int .u64 b] w fun e w' => e = .returned (.tuple #[.int .u64 q, .int .u64 r]) ∧ w1 = w') :
    Calls Tryd.prog 51 #[.int .u64 high, .int .u64 next, .int .u64 b] w fun e w' => e = .returned (.int .u64 q) ∧ w1 = w' := by
  have HD := Lib.hid hD; clear hD
  go_enter Tryd.func51, Tryd.ntmps51
  go_wp2_with fail
  refine HD.out.mono ?_
  rintro e w' ⟨rfl, rfl⟩
  go_wp2
  go_ret
  exact ⟨rfl, rfl⟩

set_option maxRecDepth 100000 in
set_option maxHeartbeats 1000000 in
theorem guess_under' (high next b q : Nat) (h : ¬ (b : Int) ≤ high) (w : World)
    (hD : Calls Tryd.prog 68 #[.int .u64 high, .int .u64 next, .int .u64 b] w (DivPost q w)) :
    Calls Tryd.prog 51 #[.int .u64 high, .int .u64 next, .int .u64 b] w fun e w' => e = .returned (.int .u64 q) ∧ w = w' := by
  have HD := Lib.hid hD; clear hD
  go_enter Tryd.func51, Tryd.ntmps51
  go_wp2_with fail
  refine HD.out.mono ?_
  rintro e w' ⟨⟨r, rfl⟩, rfl⟩
  go_wp2
  go_ret
  exact ⟨rfl, rfl⟩

/-- WHAT guess COMES TO, for a divisor that has its highest bit. -/
theorem guess_any (high next b : Nat) (hh : high < 18446744073709551616) (hn : next < 18446744073709551616) (hb : b < 18446744073709551616) (hb1 : 9223372036854775808 ≤ b) (w : World) :
    Calls Tryd.prog 51 #[.int .u64 high, .int .u64 next, .int .u64 b] w fun e w' => e = .returned (.int .u64 (guessN high next b : Nat)) ∧ ∃ m, w' = w.drewN m := by
  unfold guessN
  by_cases h : b ≤ high
  · rw [if_pos h]
    exact (guess_over high next b (by omega) w).mono fun e w' ⟨he, hw⟩ => ⟨he, 0, hw ▸ rfl⟩
  · rw [if_neg h]
    by_cases h0 : high = 0
    · subst h0
      rw [Nat.zero_mul, Nat.zero_add]
      exact (guess_under 0 next b (next / b) (by omega) w w.drew _ (div64_small next b (by omega) (by omega) w)).mono fun e w' ⟨he, hw⟩ => ⟨he, 1, hw ▸ rfl⟩
    · have hz : Lib.bitLen ((b : Int)).toNat = 64 := by rw [Int.toNat_natCast]; exact bitLen_full b hb hb1
      have hL : ∀ w, Calls Tryd.prog 32 #[.int .u64 b] w fun e w' => e = .returned (.int .i64 0) ∧ w = w' := fun w =>
        (Tryd.bits_LeadingZeros64 b w (by omega) (by omega)).mono fun e w' ⟨he, hw⟩ => ⟨by rw [he, hz]; rfl, hw.symm⟩
      have e1 : ∀ x : Nat, x < 18446744073709551616 → bits .and .u64 (x : Int) 4294967295 = ((x % 4294967296 : Nat) : Int) := fun x hx => by
        have := bits_and_u64_nat x 4294967295 hx (by omega)
        rw [show x &&& 4294967295 = x % 4294967296 from Nat.and_two_pow_sub_one_eq_mod x 32] at this
        exact this
      have e2 : bits .or .u64 (high : Int) 0 = (high : Int) := by
        have := bits_or_u64_nat high 0 hh (by omega)
        rw [Nat.or_zero] at this
        exact this
      have h := div64_big high next b (b / 4294967296) (b % 4294967296) (next / 4294967296) (next % 4294967296) (by omega) (by omega) (by omega) (by omega) (by omega) (by omega) (by omega) (by omega) (by omega) w (e1 b hb) (e1 next hn) e2 hL
      exact (guess_under' high next b _ (by omega) w h).mono fun e w' ⟨he, hw⟩ => ⟨he, 0, hw ▸ rfl⟩
end Go.Proofs.YtmhgnlngcjckbaaDoor
namespace Go.Proofs.YtmhgnlngcjckbaaDoor
open Go.RowKit

theorem and_one (z : Nat) (h : z < 18446744073709551616) : bits .and .u64 z 1 = ((z % 2 : Nat) : Int) := by
  have := bits_and_u64_nat z 1 h (by omega)
  rw [Nat.and_one_is_mod] at this
  exact this
theorem bit_of (x i p s : Nat) (hp : i / 64 = p) (hs : i % 64 = s) : pN x p / 2 ^ s % 2 = x % 115792089237316195423570985008687907853269984665640564039457584007913129639936 / 2 ^ i % 2 := by
  subst hp hs
  unfold pN
  have e : 18446744073709551616 = 2 ^ (i % 64) * 2 ^ (64 - i % 64) := by rw [← Nat.pow_add, show i % 64 + (64 - i % 64) = 64 by omega]
  have hd : (2 : Nat) ∣ 2 ^ (64 - i % 64) := by
    have := Nat.pow_dvd_pow 2 (show 1 ≤ 64 - i % 64 by omega)
    simpa using this
  rw [e, Nat.mod_mul_right_div_self, Nat.mod_mod_of_dvd _ hd, Nat.div_div_eq_div_mul, ← Nat.pow_add, show 64 * (i / 64) + i % 64 = i by omega]
theorem pw_at (x p : Nat) (h : p < 4) : (pw x)[p]? = some (.int .u64 (pN x p : Nat)) := by
  have c : p = 0 ∨ p = 1 ∨ p = 2 ∨ p = 3 := by omega
  rcases c with rfl | rfl | rfl | rfl
  · simp [pw, pN]
  · simp [pw, pN]; omega
  · simp [pw, pN]; omega
  · simp [pw, pN]; omega

end Go.Proofs.YtmhgnlngcjckbaaDoor
namespace Go.Proofs.YtmhgnlngcjckbaaDoor
open Go.RowKit

/-- The number of n bits, and its parts. -/
def vb (b : Nat → Nat) : Nat → Nat
  | 0 => 0
  | n + 1 => vb b n + 2 ^ n * b n
def bpt (b : Nat → Nat) (p : Nat) : Nat → Nat
  | 0 => 0
  | k + 1 => bpt b p k + if k / 64 = p then b k * 2 ^ (k % 64) else 0
def mb (p k : Nat) : Nat := min 64 (k - 64 * p)
theorem bpt_lt {b : Nat → Nat} (p : Nat) : ∀ k, (∀ j, j < k → b j < 2) → bpt b p k < 2 ^ mb p k
  | 0, _ => by simp [bpt, Nat.two_pow_pos]
  | k + 1, h => by
    have ih := bpt_lt p k (fun j hj => h j (by omega))
    have hd := h k (by omega)
    unfold bpt
    by_cases e : k / 64 = p
    · rw [if_pos e]
      have m0 : mb p k = k % 64 := by unfold mb; omega
      have m1 : mb p (k + 1) = k % 64 + 1 := by unfold mb; omega
      rw [m0] at ih
      rw [m1, Nat.pow_succ]
      have h2 : b k * 2 ^ (k % 64) ≤ 1 * 2 ^ (k % 64) := Nat.mul_le_mul_right _ (by omega)
      omega
    · rw [if_neg e, Nat.add_zero]
      exact Nat.lt_of_lt_of_le ih (Nat.pow_le_pow_right (by omega) (by unfold mb; omega))
theorem bpt_64 {b : Nat → Nat} (p k : Nat) (h : ∀ j, j < k → b j < 2) : bpt b p k < 18446744073709551616 := by
  refine Nat.lt_of_lt_of_le (bpt_lt p k h) ?_
  have e : 18446744073709551616 = 2 ^ 64 := by rfl
  rw [e]
  exact Nat.pow_le_pow_right (by omega) (by unfold mb; omega)
theorem blow {b : Nat → Nat} {k p s : Nat} (hp : k / 64 = p) (hs : k % 64 = s) (h : ∀ j, j < k → b j < 2) : bpt b p k < 2 ^ s := by
  have := bpt_lt (b := b) p k h
  rwa [show mb p k = k % 64 by unfold mb; omega, hs] at this
theorem bpt_n4 {b : Nat → Nat} : ∀ k, k ≤ 256 → n4 (bpt b 0 k) (bpt b 1 k) (bpt b 2 k) (bpt b 3 k) = vb b k
  | 0, _ => rfl
  | k + 1, h => by
    have ih := bpt_n4 (b := b) k (by omega)
    have e : 2 ^ k * b k = 2 ^ (64 * (k / 64)) * (b k * 2 ^ (k % 64)) := by
      rw [← Nat.mul_assoc, Nat.mul_comm (2 ^ (64 * (k / 64))), Nat.mul_assoc, ← Nat.pow_add, show 64 * (k / 64) + k % 64 = k by omega, Nat.mul_comm]
    simp only [bpt, vb]
    rw [e, ← ih]
    generalize b k * 2 ^ (k % 64) = y
    have c : k / 64 = 0 ∨ k / 64 = 1 ∨ k / 64 = 2 ∨ k / 64 = 3 := by omega
    rcases c with c | c | c | c
    · rw [c, show (2 : Nat) ^ (64 * 0) = 1 by rfl]; simp only [n4]; simp; omega
    · rw [c, show (2 : Nat) ^ (64 * 1) = 18446744073709551616 by rfl]; simp only [n4]; simp; omega
    · rw [c, show (2 : Nat) ^ (64 * 2) = 340282366920938463463374607431768211456 by rfl]; simp only [n4]; simp; omega
    · rw [c, show (2 : Nat) ^ (64 * 3) = 6277101735386680763835789423207666416102355444464034512896 by rfl]; simp only [n4]; simp; omega
theorem or_bit (x y s : Nat) (hx : x < 2 ^ s) (hy : y < 2) (hs : s ≤ 63) : bits .or .u64 (x : Int) (IntKind.u64.wrap ((y : Int) * 2 ^ s)) = ((x + y * 2 ^ s : Nat) : Int) := by
  have h1 : 2 ^ s ≤ 2 ^ 63 := Nat.pow_le_pow_right (by omega) hs
  have h2 : y * 2 ^ s ≤ 1 * 2 ^ 63 := Nat.mul_le_mul (by omega) h1
  have h3 : y * 2 ^ s < 18446744073709551616 := by omega
  have e : IntKind.u64.wrap ((y : Int) * 2 ^ s) = ((y * 2 ^ s : Nat) : Int) := by
    rw [IntKind.wrap_u64]
    have e0 : (y : Int) * 2 ^ s = ((y * 2 ^ s : Nat) : Int) := by simp
    rw [e0]
    omega
  rw [e, bits_or_u64_nat x (y * 2 ^ s) (by omega) h3]
  have := Nat.two_pow_add_eq_or_of_lt hx y
  rw [Nat.or_comm, Nat.mul_comm y, ← this, Nat.add_comm]

def rb4 (b : Nat → Nat) (k : Nat) : Array Value := #[.int .u64 (bpt b 0 k : Nat), .int .u64 (bpt b 1 k : Nat), .int .u64 (bpt b 2 k : Nat), .int .u64 (bpt b 3 k : Nat)]
theorem rb4_size (b : Nat → Nat) (k : Nat) : (rb4 b k).size = 4 := rfl
theorem rb4_at (b : Nat → Nat) (k p : Nat) (h : p < 4) : (rb4 b k)[p]? = some (.int .u64 (bpt b p k : Nat)) := by
  have c : p = 0 ∨ p = 1 ∨ p = 2 ∨ p = 3 := by omega
  rcases c with rfl | rfl | rfl | rfl <;> rfl
theorem rb4_one (b : Nat → Nat) (k : Nat) : (rb4 b k).all (·.oneCell') = true := by
  simp [rb4, Value.oneCell']
theorem rb4_set (b : Nat → Nat) (k p s : Nat) (hk : k < 256) (hp : k / 64 = p) (hs : k % 64 = s) : (rb4 b k).setIfInBounds p (.int .u64 ((bpt b p k + b k * 2 ^ s : Nat) : Int)) = rb4 b (k + 1) := by
  have c : p = 0 ∨ p = 1 ∨ p = 2 ∨ p = 3 := by omega
  subst hs
  rcases c with rfl | rfl | rfl | rfl <;> simp [rb4, bpt, hp]
theorem rb4_wv (b : Nat → Nat) (h : ∀ j, j < 256 → b j < 2) : Value.agg (rb4 b 256) = wv (vb b 256) := by
  rw [← bpt_n4 256 (Nat.le_refl _), wv_n4 (bpt_64 _ _ h) (bpt_64 _ _ h) (bpt_64 _ _ h) (bpt_64 _ _ h)]
  rfl

/-- The bit that pick lays at i. -/
def pbit (x : Nat) (sh : Int) (fill i : Nat) : Nat := if 0 ≤ (i : Int) + sh ∧ (i : Int) + sh < 256 then x % 115792089237316195423570985008687907853269984665640564039457584007913129639936 / 2 ^ ((i : Int) + sh).toNat % 2 else fill
theorem pbit_lt (x : Nat) (sh : Int) (fill i : Nat) (hf : fill < 2) : pbit x sh fill i < 2 := by
  unfold pbit; split <;> omega

end Go.Proofs.YtmhgnlngcjckbaaDoor
namespace Go.Proofs.YtmhgnlngcjckbaaDoor
open Go.RowKit

theorem wv_small {x : Nat} (h : x < 18446744073709551616) : wv x = .agg #[.int .u64 x, .int .u64 0, .int .u64 0, .int .u64 0] := by
  have := wv_n4 (a0 := x) (a1 := 0) (a2 := 0) (a3 := 0) h (by omega) (by omega) (by omega)
  rw [show n4 x 0 0 0 = x by unfold n4; omega] at this
  exact this
theorem wv_zero : wv 0 = .agg #[.int .u64 0, .int .u64 0, .int .u64 0, .int .u64 0] := by kernel_rfl

/-- What Byte comes to. -/
def byteN (k x : Nat) : Nat := if k % 115792089237316195423570985008687907853269984665640564039457584007913129639936 ≤ 31 then bt x (k % 115792089237316195423570985008687907853269984665640564039457584007913129639936) else 0
end Go.Proofs.YtmhgnlngcjckbaaDoor
namespace Go.Proofs.YtmhgnlngcjckbaaDoor
open Go.RowKit

/-- Four cells that may be written. -/
def Free4 (B : Nat) (wx : World) : Prop := wx.frozen? ⟨B, 0, none⟩ = false ∧ wx.frozen? ⟨B, 1, none⟩ = false ∧ wx.frozen? ⟨B, 2, none⟩ = false ∧ wx.frozen? ⟨B, 3, none⟩ = false
theorem Free4.below {B : Nat} {wx w' : World} (h : Free4 B wx) (hb : Below wx.heap.size wx w') (hB : B < wx.heap.size) : Free4 B w' :=
  ⟨(hb.frozen hB).trans h.1, (hb.frozen hB).trans h.2.1, (hb.frozen hB).trans h.2.2.1, (hb.frozen hB).trans h.2.2.2⟩

/-- What Sar comes to, by fewer than 256 bits. -/
def sarN (s y : Nat) : Nat := if 57896044618658097711785492504343953926634992332820282019728792003956564819968 ≤ y then 115792089237316195423570985008687907853269984665640564039457584007913129639935 - (115792089237316195423570985008687907853269984665640564039457584007913129639935 - y) / 2 ^ s else y / 2 ^ s
/-- What SignExtend comes to. -/
def sextN (k x : Nat) : Nat := if k % 115792089237316195423570985008687907853269984665640564039457584007913129639936 ≤ 30 then sarN (8 * (31 - k % 115792089237316195423570985008687907853269984665640564039457584007913129639936)) (x * 2 ^ (8 * (31 - k % 115792089237316195423570985008687907853269984665640564039457584007913129639936)) % 115792089237316195423570985008687907853269984665640564039457584007913129639936) else x
end Go.Proofs.YtmhgnlngcjckbaaDoor
namespace Go.Proofs.YtmhgnlngcjckbaaDoor
open Go.RowKit

theorem vb_mod (Y : Nat) (b : Nat → Nat) : ∀ n, (∀ i, i < n → b i = Y / 2 ^ i % 2) → vb b n = Y % 2 ^ n
  | 0, _ => by simp [vb, Nat.mod_one]
  | n + 1, h => by
    simp only [vb]
    rw [vb_mod Y b n (fun i hi => h i (by omega)), h n (by omega), Nat.pow_succ, Nat.mod_mul]
/-- Shifts up, bit by bit. -/
theorem vb_shl (x n : Nat) : wv (vb (pbit x (-(n : Int)) 0) 256) = wv (x * 2 ^ n) := by
  rw [vb_mod (x % 115792089237316195423570985008687907853269984665640564039457584007913129639936 * 2 ^ n) _ 256 (fun i hi => ?_)]
  · apply wv_congr
    rw [show (2 : Nat) ^ 256 = 115792089237316195423570985008687907853269984665640564039457584007913129639936 by rfl, Nat.mod_mod, Nat.mod_mul_mod]
  · unfold pbit
    by_cases h : n ≤ i
    · rw [if_pos (by omega), show ((i : Int) + -(n : Int)).toNat = i - n by omega]
      have e : 2 ^ i = 2 ^ n * 2 ^ (i - n) := by rw [← Nat.pow_add, show n + (i - n) = i by omega]
      rw [e, ← Nat.div_div_eq_div_mul, Nat.mul_div_cancel _ (Nat.two_pow_pos n)]
    · rw [if_neg (by omega)]
      have e : 2 ^ n = 2 ^ i * (2 * 2 ^ (n - i - 1)) := by rw [← Nat.pow_succ', ← Nat.pow_add, show i + (n - i - 1 + 1) = n by omega]
      rw [e, ← Nat.mul_assoc, Nat.mul_comm (x % 115792089237316195423570985008687907853269984665640564039457584007913129639936), Nat.mul_assoc, Nat.mul_div_cancel_left _ (Nat.two_pow_pos i), ← Nat.mul_assoc, Nat.mul_comm _ 2, Nat.mul_assoc, Nat.mul_mod_right]
/-- Shifts down, bit by bit. -/
theorem vb_shr (x n : Nat) : wv (vb (pbit x (n : Int) 0) 256) = wv (x % 115792089237316195423570985008687907853269984665640564039457584007913129639936 / 2 ^ n) := by
  rw [vb_mod (x % 115792089237316195423570985008687907853269984665640564039457584007913129639936 / 2 ^ n) _ 256 (fun i hi => ?_)]
  · apply wv_congr
    rw [show (2 : Nat) ^ 256 = 115792089237316195423570985008687907853269984665640564039457584007913129639936 by rfl, Nat.mod_mod]
  · unfold pbit
    rw [Nat.div_div_eq_div_mul, ← Nat.pow_add, Nat.add_comm n i]
    by_cases h : i + n < 256
    · rw [if_pos (by omega), show ((i : Int) + (n : Int)).toNat = i + n by omega]
    · rw [if_neg (by omega)]
      have h1 : x % 115792089237316195423570985008687907853269984665640564039457584007913129639936 < 2 ^ (i + n) := Nat.lt_of_lt_of_le (Nat.mod_lt _ (by omega)) (show 115792089237316195423570985008687907853269984665640564039457584007913129639936 ≤ 2 ^ (i + n) from Nat.le_trans (show 115792089237316195423570985008687907853269984665640564039457584007913129639936 ≤ 2 ^ 256 by decide) (Nat.pow_le_pow_right (by omega) (by omega)))
      rw [Nat.div_eq_of_lt h1]
theorem bit_test (y i : Nat) : y / 2 ^ i % 2 = if y.testBit i then 1 else 0 := by
  rw [Nat.testBit_eq_decide_div_mod_eq]
  by_cases h : y / 2 ^ i % 2 = 1
  · rw [h]; rfl
  · rw [decide_eq_false h]; simp; omega
/-- Shifts down of signed ones, bit by bit. -/
theorem vb_sar (x n : Nat) : wv (vb (pbit x (n : Int) (x % 115792089237316195423570985008687907853269984665640564039457584007913129639936 / 57896044618658097711785492504343953926634992332820282019728792003956564819968)) 256) = wv (sarN n (x % 115792089237316195423570985008687907853269984665640564039457584007913129639936)) := by
  have hX : x % 115792089237316195423570985008687907853269984665640564039457584007913129639936 < 115792089237316195423570985008687907853269984665640564039457584007913129639936 := Nat.mod_lt _ (by omega)
  unfold sarN
  by_cases h : 57896044618658097711785492504343953926634992332820282019728792003956564819968 ≤ x % 115792089237316195423570985008687907853269984665640564039457584007913129639936
  · rw [if_pos h, show x % 115792089237316195423570985008687907853269984665640564039457584007913129639936 / 57896044618658097711785492504343953926634992332820282019728792003956564819968 = 1 by omega]
    rw [vb_mod (115792089237316195423570985008687907853269984665640564039457584007913129639935 - (115792089237316195423570985008687907853269984665640564039457584007913129639935 - x % 115792089237316195423570985008687907853269984665640564039457584007913129639936) / 2 ^ n) _ 256 (fun i hi => ?_)]
    · apply wv_congr
      rw [show (2 : Nat) ^ 256 = 115792089237316195423570985008687907853269984665640564039457584007913129639936 by rfl, Nat.mod_mod]
    · unfold pbit
      generalize x % 115792089237316195423570985008687907853269984665640564039457584007913129639936 = X at *
      have hd : (115792089237316195423570985008687907853269984665640564039457584007913129639935 - X) / 2 ^ n ≤ 115792089237316195423570985008687907853269984665640564039457584007913129639935 - X := Nat.div_le_self _ _
      have e1 : 115792089237316195423570985008687907853269984665640564039457584007913129639935 - (115792089237316195423570985008687907853269984665640564039457584007913129639935 - X) / 2 ^ n = 2 ^ 256 - ((115792089237316195423570985008687907853269984665640564039457584007913129639935 - X) / 2 ^ n + 1) := by rw [show (2 : Nat) ^ 256 = 115792089237316195423570985008687907853269984665640564039457584007913129639936 by rfl]; omega
      rw [bit_test _ i, e1, Nat.testBit_two_pow_sub_succ (by rw [show (2 : Nat) ^ 256 = 115792089237316195423570985008687907853269984665640564039457584007913129639936 by rfl]; omega)]
      have e2 : 115792089237316195423570985008687907853269984665640564039457584007913129639935 - X = 2 ^ 256 - (X + 1) := by rw [show (2 : Nat) ^ 256 = 115792089237316195423570985008687907853269984665640564039457584007913129639936 by rfl]; omega
      rw [Nat.testBit_div_two_pow, e2, Nat.testBit_two_pow_sub_succ (by rw [show (2 : Nat) ^ 256 = 115792089237316195423570985008687907853269984665640564039457584007913129639936 by rfl]; omega)]
      by_cases l : i + n < 256
      · rw [if_pos (by omega), show ((i : Int) + (n : Int)).toNat = i + n by omega, bit_test]
        simp [hi, l]
      · rw [if_neg (by omega)]
        simp [hi, l]
  · rw [if_neg h, show x % 115792089237316195423570985008687907853269984665640564039457584007913129639936 / 57896044618658097711785492504343953926634992332820282019728792003956564819968 = 0 by omega]
    exact vb_shr x n

theorem un_negi (n : Nat) (h : n ≤ 256) (w : World) : (Op.unary UnOp.neg (.int .i64 n)).run Tryd.prog w = .ok (.int .i64 (-(n : Int))) w := by
  have e : IntKind.i64.wrap (-(n : Int)) = -(n : Int) := IntWalk.i64_in _ (by omega)
  go_simp

end Go.Proofs.YtmhgnlngcjckbaaDoor
namespace Go.Proofs.YtmhgnlngcjckbaaDoor
open Go.RowKit

/-- A number, of which the bit at s is c. -/
def bset (z c s : Nat) : Nat := z % 2 ^ s + c * 2 ^ s + z / 2 ^ (s + 1) * 2 ^ (s + 1)
theorem bset_bit (z c s j : Nat) (hc : c < 2) : (bset z c s).testBit j = if j = s then decide (c = 1) else z.testBit j := by
  have h1 : z % 2 ^ s < 2 ^ s := Nat.mod_lt _ (Nat.two_pow_pos s)
  have e : bset z c s = 2 ^ s * (2 * (z / 2 ^ (s + 1)) + c) + z % 2 ^ s := by
    unfold bset; rw [Nat.pow_succ, Nat.mul_add, Nat.mul_comm c, Nat.mul_comm (z / (2 ^ s * 2)), ← Nat.mul_assoc]; omega
  rw [e, Nat.testBit_two_pow_mul_add _ h1]
  by_cases l : j < s
  · rw [if_pos l, if_neg (by omega), Nat.testBit_mod_two_pow]; simp [l]
  · rw [if_neg l]
    by_cases q : j = s
    · subst q; rw [Nat.sub_self, if_pos rfl, Nat.testBit_zero]; simp; omega
    · rw [if_neg q]
      obtain ⟨k, rfl⟩ : ∃ k, j = s + 1 + k := ⟨j - (s + 1), by omega⟩
      rw [show s + 1 + k - s = k + 1 by omega, Nat.testBit_succ, show (2 * (z / 2 ^ (s + 1)) + c) / 2 = z / 2 ^ (s + 1) by omega, Nat.testBit_div_two_pow, Nat.add_comm]
theorem bset_lt {z c s n : Nat} (hc : c < 2) (hz : z < 2 ^ n) (hs : s < n) : bset z c s < 2 ^ n := by
  refine Nat.lt_pow_two_of_testBit _ fun j hj => ?_
  rw [bset_bit _ _ _ _ hc, if_neg (by omega)]
  exact Nat.testBit_lt_two_pow (Nat.lt_of_lt_of_le hz (Nat.pow_le_pow_right (by omega) hj))
theorem part_bset (z c s : Nat) (hz : z < 18446744073709551616) (hs : s ≤ 63) (hc : c < 2) :
    bits .or .u64 (bits .andNot .u64 (z : Int) (IntKind.u64.wrap (2 ^ s))) (IntKind.u64.wrap ((c : Int) * 2 ^ s)) = ((bset z c s : Nat) : Int) := by
  have h1 : 2 ^ s ≤ 2 ^ 63 := Nat.pow_le_pow_right (by omega) hs
  have h0 := Nat.two_pow_pos s
  have h2 : c * 2 ^ s ≤ 1 * 2 ^ 63 := Nat.mul_le_mul (by omega) h1
  have e1 : IntKind.u64.wrap (2 ^ s) = ((2 ^ s : Nat) : Int) := by
    rw [IntKind.wrap_u64]
    have e0 : (2 : Int) ^ s = ((2 ^ s : Nat) : Int) := by simp
    rw [e0]; omega
  have e2 : IntKind.u64.wrap ((c : Int) * 2 ^ s) = ((c * 2 ^ s : Nat) : Int) := by
    rw [IntKind.wrap_u64]
    have e0 : (c : Int) * 2 ^ s = ((c * 2 ^ s : Nat) : Int) := by simp
    rw [e0]; omega
  have h3 : z &&& (18446744073709551615 - 2 ^ s) ≤ z := Nat.and_le_left
  rw [e1, e2, u64_andNot_nat z _ hz (by omega), bits_or_u64_nat _ _ (by omega) (by omega)]
  congr 1
  refine Nat.eq_of_testBit_eq fun j => ?_
  rw [bset_bit _ _ _ _ hc, Nat.testBit_or, Nat.testBit_and, show 18446744073709551615 - 2 ^ s = 2 ^ 64 - (2 ^ s + 1) by rw [show (2 : Nat) ^ 64 = 18446744073709551616 by rfl]; omega, Nat.testBit_two_pow_sub_succ (by rw [show (2 : Nat) ^ 64 = 18446744073709551616 by rfl]; omega), Nat.testBit_two_pow]
  have hj : ¬ j < 64 → z.testBit j = false := fun h => Nat.testBit_lt_two_pow (Nat.lt_of_lt_of_le hz (by rw [show 18446744073709551616 = 2 ^ 64 by rfl]; exact Nat.pow_le_pow_right (by omega) (by omega)))
  have hcb : (c * 2 ^ s).testBit j = (decide (j = s) && decide (c = 1)) := by
    have : c = 0 ∨ c = 1 := by omega
    rcases this with rfl | rfl
    · simp
    · rw [Nat.one_mul, Nat.testBit_two_pow]; simp [eq_comm]
  rw [hcb]
  by_cases q : j = s
  · subst q; simp
  · rw [if_neg q]
    by_cases l : j < 64
    · simp [q, l, Ne.symm q]
    · simp [q, hj l]
/-- A number's part. -/
def sx (x c a : Nat) : Nat → Nat
  | 0 => x
  | k + 1 => bset (sx x c a k) c (a + k)
theorem sx_bit (x c a j : Nat) (hc : c < 2) : ∀ k, (sx x c a k).testBit j = if a ≤ j ∧ j < a + k then decide (c = 1) else x.testBit j
  | 0 => by rw [if_neg (by omega)]; rfl
  | k + 1 => by
    unfold sx
    rw [bset_bit _ _ _ _ hc, sx_bit x c a j hc k]
    by_cases h : j = a + k
    · rw [if_pos h, if_pos (by omega)]
    · rw [if_neg h]
      by_cases h2 : a ≤ j ∧ j < a + k
      · rw [if_pos h2, if_pos (by omega)]
      · rw [if_neg h2, if_neg (by omega)]
theorem sx_lt (x c a n : Nat) (hc : c < 2) (hx : x < 2 ^ n) : ∀ k, a + k ≤ n → sx x c a k < 2 ^ n
  | 0, _ => hx
  | k + 1, h => bset_lt hc (sx_lt x c a n hc hx k (by omega)) (by omega)
theorem pN_bit (x p j : Nat) (hp : p < 4) : (pN x p).testBit j = (decide (j < 64) && x.testBit (64 * p + j)) := by
  unfold pN
  rw [show 18446744073709551616 = 2 ^ 64 by rfl, Nat.testBit_mod_two_pow, Nat.testBit_div_two_pow, show 115792089237316195423570985008687907853269984665640564039457584007913129639936 = 2 ^ 256 by rfl, Nat.testBit_mod_two_pow]
  by_cases h : j < 64
  · simp [h, show j + 64 * p < 256 by omega, Nat.add_comm]
  · simp [h]
theorem pN_bset (x c i q : Nat) (hc : c < 2) (hq : q < 4) : pN (bset x c i) q = if i / 64 = q then bset (pN x q) c (i % 64) else pN x q := by
  refine Nat.eq_of_testBit_eq fun j => ?_
  rw [pN_bit _ _ _ hq, bset_bit _ _ _ _ hc]
  by_cases h : i / 64 = q
  · rw [if_pos h, bset_bit _ _ _ _ hc, pN_bit _ _ _ hq]
    by_cases e : j = i % 64
    · subst h; rw [if_pos e, if_pos (by omega)]; simp [show j < 64 by omega]
    · rw [if_neg e]
      by_cases l : j < 64
      · rw [if_neg (by omega)]
      · simp [l]
  · rw [if_neg h, pN_bit _ _ _ hq]
    by_cases l : j < 64
    · rw [if_neg (by omega)]
    · simp [l]
theorem sarN_bit (s y j : Nat) (hy : y < 2 ^ 256) (hj : j < 256) : (sarN s y).testBit j = if j + s < 256 then y.testBit (j + s) else y.testBit 255 := by
  have hp : (2 : Nat) ^ 256 = 115792089237316195423570985008687907853269984665640564039457584007913129639936 := by rfl
  have ht : y.testBit 255 = decide (57896044618658097711785492504343953926634992332820282019728792003956564819968 ≤ y) := by
    rw [Nat.testBit_eq_decide_div_mod_eq, show (2 : Nat) ^ 255 = 57896044618658097711785492504343953926634992332820282019728792003956564819968 by rfl]
    rw [Bool.eq_iff_iff, decide_eq_true_eq, decide_eq_true_eq]; omega
  rw [ht]
  unfold sarN
  by_cases h : 57896044618658097711785492504343953926634992332820282019728792003956564819968 ≤ y
  · rw [if_pos h]
    have hd : (115792089237316195423570985008687907853269984665640564039457584007913129639935 - y) / 2 ^ s ≤ 115792089237316195423570985008687907853269984665640564039457584007913129639935 - y := Nat.div_le_self _ _
    have e1 : 115792089237316195423570985008687907853269984665640564039457584007913129639935 - (115792089237316195423570985008687907853269984665640564039457584007913129639935 - y) / 2 ^ s = 2 ^ 256 - ((115792089237316195423570985008687907853269984665640564039457584007913129639935 - y) / 2 ^ s + 1) := by omega
    have e2 : 115792089237316195423570985008687907853269984665640564039457584007913129639935 - y = 2 ^ 256 - (y + 1) := by omega
    rw [e1, Nat.testBit_two_pow_sub_succ (by omega), Nat.testBit_div_two_pow, e2, Nat.testBit_two_pow_sub_succ hy]
    by_cases l : j + s < 256
    · rw [if_pos l]; simp [hj, l]
    · rw [if_neg l]; simp [hj, l, h]
  · rw [if_neg h, Nat.testBit_div_two_pow]
    by_cases l : j + s < 256
    · rw [if_pos l]
    · rw [if_neg l, decide_eq_false h]
      exact Nat.testBit_lt_two_pow (Nat.lt_of_lt_of_le hy (Nat.pow_le_pow_right (by omega) (by omega)))
theorem sarN_lt (s y : Nat) (hy : y < 2 ^ 256) : sarN s y < 2 ^ 256 := by
  have hp : (2 : Nat) ^ 256 = 115792089237316195423570985008687907853269984665640564039457584007913129639936 := by rfl
  unfold sarN
  split
  · exact Nat.lt_of_le_of_lt (Nat.sub_le _ _) (by omega)
  · exact Nat.lt_of_le_of_lt (Nat.div_le_self _ _) hy
theorem sx_sext (x n : Nat) (hn : n ≤ 30) (hx : x < 2 ^ 256) : sx x (x / 2 ^ (8 * n + 7) % 2) (8 * n + 8) (248 - 8 * n) = sarN (8 * (31 - n)) (x * 2 ^ (8 * (31 - n)) % 115792089237316195423570985008687907853269984665640564039457584007913129639936) := by
  have hp : (2 : Nat) ^ 256 = 115792089237316195423570985008687907853269984665640564039457584007913129639936 := by rfl
  have hy : x * 2 ^ (8 * (31 - n)) % 115792089237316195423570985008687907853269984665640564039457584007913129639936 < 2 ^ 256 := by rw [hp]; exact Nat.mod_lt _ (by omega)
  have hc : x / 2 ^ (8 * n + 7) % 2 < 2 := Nat.mod_lt _ (by omega)
  have hb : ∀ j, j < 256 → (x * 2 ^ (8 * (31 - n)) % 115792089237316195423570985008687907853269984665640564039457584007913129639936).testBit j = (decide (8 * (31 - n) ≤ j) && x.testBit (j - 8 * (31 - n))) := fun j hj => by
    rw [← hp, Nat.testBit_mod_two_pow, Nat.mul_comm, Nat.testBit_two_pow_mul]; simp [hj]
  refine Nat.eq_of_testBit_eq fun j => ?_
  by_cases hj : j < 256
  · rw [sx_bit _ _ _ _ hc, sarN_bit _ _ _ hy hj]
    by_cases l : j + 8 * (31 - n) < 256
    · rw [if_neg (by omega), if_pos l, hb _ l]
      simp
    · rw [if_pos (by omega), if_neg l, hb _ (by omega), show 255 - 8 * (31 - n) = 8 * n + 7 by omega, Nat.testBit_eq_decide_div_mod_eq]
      simp; omega
  · rw [Nat.testBit_lt_two_pow (Nat.lt_of_lt_of_le (sx_lt _ _ _ 256 hc hx _ (by omega)) (Nat.pow_le_pow_right (by omega) (by omega))), Nat.testBit_lt_two_pow (Nat.lt_of_lt_of_le (sarN_lt _ _ hy) (Nat.pow_le_pow_right (by omega) (by omega)))]
theorem pw_mod (x : Nat) : pw (x % 115792089237316195423570985008687907853269984665640564039457584007913129639936) = pw x := by
  have h := wv_congr (x := x % 115792089237316195423570985008687907853269984665640564039457584007913129639936) (y := x) (Nat.mod_mod _ _)
  rw [wv_pw, wv_pw] at h
  exact Value.agg.inj h
theorem pw_get (x p : Nat) (h : p < 4) (h' : p < (pw x).size) : (pw x)[p] = .int .u64 (pN x p : Nat) := by
  have := pw_at x p h
  rw [Array.getElem?_eq_getElem h'] at this
  exact Option.some.inj this
theorem pw_set (Y c i p s : Nat) (hc : c < 2) (hp : i / 64 = p) (hs : i % 64 = s) : (pw Y).setIfInBounds p (.int .u64 ((bset (pN Y p) c s : Nat) : Int)) = pw (bset Y c i) := by
  subst hp hs
  apply Array.ext
  · simp [pw]
  · intro q h1 h2
    have hq : q < 4 := by simpa [pw] using h2
    have hs : q < (pw Y).size := by simpa using h1
    rw [pw_get _ _ hq, Array.getElem_setIfInBounds hs, pN_bset _ _ _ _ hc hq]
    by_cases e : i / 64 = q
    · rw [if_pos e, if_pos e, e]
    · rw [if_neg e, if_neg e, pw_get _ _ hq]
end Go.Proofs.YtmhgnlngcjckbaaDoor

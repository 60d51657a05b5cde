/- What math/bits.Div64 comes to: the walk. (With it, merged: Down · Shls · Downs · Not · Refs · Cmp · FFld · FLess · FVal · FTimes · FCl · FScl · Div64 · DivW.) -/
import Derived.Test.YtfgefifplmhopaaM2
import Derived.Laws.Bits64
import Derived.Test.YtfgefifplmhopaaM1
import Derived.Deep.RegionWith
import Derived.Deep.QuietTactic
import Derived.BigQuiet
import Derived.WalkKit
import Derived.Deep.LoopGhost
import Derived.Lib.Hide
namespace Go.Proofs.Ytfgefifplmhopaa
open Go.RowKit

theorem down_at (i b c : Nat) (v : Value) (h0 : (0 : Int) ≤ i) (h : (i : Int) < 4) (w : World) (hc : w.cell? ⟨b, i, none⟩ = some v) : Calls Try.prog 83 #[.int .i64 i, .pointer (some ⟨b, 0, none⟩), .pointer (some ⟨c, 0, none⟩)] w fun e w' => e = .returned v ∧ w' = w := by
  go_enter Try.func83, Try.ntmps83
  go_wp2
  go_ret
  exact ⟨rfl, rfl⟩
theorem down_past (i : Int) (b c : Nat) (v : Value) (h : 4 ≤ i) (w : World) (hc : w.cell? ⟨c, 0, none⟩ = some v) : Calls Try.prog 83 #[.int .i64 i, .pointer (some ⟨b, 0, none⟩), .pointer (some ⟨c, 0, none⟩)] w fun e w' => e = .returned v ∧ w' = w := by
  have h' : ¬ i < 4 := by omega
  go_enter Try.func83, Try.ntmps83
  go_wp2
  go_ret
  exact ⟨rfl, rfl⟩

set_option maxRecDepth 100000 in
set_option maxHeartbeats 2000000 in
theorem down_walk (k0 k1 k2 k3 a0 a1 a2 a3 f p0 p1 p2 p3 p4 s t : Nat) (wh j0 j1 j2 j3 j4 : Int) (h0 : (0 : Int) ≤ s) (h64 : (s : Int) < 64)
    (ht : IntKind.i64.wrap (64 - (s : Int)) = (t : Int)) (ht64 : (t : Int) ≤ 64)
    (e0 : IntKind.i64.wrap wh = j0) (e1 : IntKind.i64.wrap (1 + wh) = j1) (e2 : IntKind.i64.wrap (2 + wh) = j2) (e3 : IntKind.i64.wrap (3 + wh) = j3)
    (g0 : IntKind.i64.wrap (j0 + 1) = j1) (g1 : IntKind.i64.wrap (j1 + 1) = j2) (g2 : IntKind.i64.wrap (j2 + 1) = j3) (g3 : IntKind.i64.wrap (j3 + 1) = j4) (w : World)
    (hC : ∀ (b c : Nat) (W : World), W.cell? ⟨b, 0, none⟩ = some (.int .u64 a0) → W.cell? ⟨b, 1, none⟩ = some (.int .u64 a1) → W.cell? ⟨b, 2, none⟩ = some (.int .u64 a2) → W.cell? ⟨b, 3, none⟩ = some (.int .u64 a3) → W.cell? ⟨c, 0, none⟩ = some (.int .u64 f) →
      (Calls Try.prog 83 #[.int .i64 j0, .pointer (some ⟨b, 0, none⟩), .pointer (some ⟨c, 0, none⟩)] W fun e w' => e = .returned (.int .u64 p0) ∧ w' = W) ∧
      (Calls Try.prog 83 #[.int .i64 j1, .pointer (some ⟨b, 0, none⟩), .pointer (some ⟨c, 0, none⟩)] W fun e w' => e = .returned (.int .u64 p1) ∧ w' = W) ∧
      (Calls Try.prog 83 #[.int .i64 j2, .pointer (some ⟨b, 0, none⟩), .pointer (some ⟨c, 0, none⟩)] W fun e w' => e = .returned (.int .u64 p2) ∧ w' = W) ∧
      (Calls Try.prog 83 #[.int .i64 j3, .pointer (some ⟨b, 0, none⟩), .pointer (some ⟨c, 0, none⟩)] W fun e w' => e = .returned (.int .u64 p3) ∧ w' = W) ∧
      (Calls Try.prog 83 #[.int .i64 j4, .pointer (some ⟨b, 0, none⟩), .pointer (some ⟨c, 0, none⟩)] W fun e w' => e = .returned (.int .u64 p4) ∧ w' = W))
    (hS : ∀ w, Calls Try.prog 82 #[.agg #[.int .u64 k0, .int .u64 k1, .int .u64 k2, .int .u64 k3]] w fun e w' => e = .returned (.tuple #[.int .i64 wh, .int .i64 s]) ∧ Below w.heap.size w w') :
    Calls Try.prog 72 #[.agg #[.int .u64 k0, .int .u64 k1, .int .u64 k2, .int .u64 k3], .agg #[.int .u64 a0, .int .u64 a1, .int .u64 a2, .int .u64 a3], .int .u64 f] w fun e w' =>
      e = .returned (.agg #[.int .u64 (bits .or .u64 ((p0 : Int) / 2 ^ s) (IntKind.u64.wrap ((p1 : Int) * 2 ^ t))), .int .u64 (bits .or .u64 ((p1 : Int) / 2 ^ s) (IntKind.u64.wrap ((p2 : Int) * 2 ^ t))), .int .u64 (bits .or .u64 ((p2 : Int) / 2 ^ s) (IntKind.u64.wrap ((p3 : Int) * 2 ^ t))), .int .u64 (bits .or .u64 ((p3 : Int) / 2 ^ s) (IntKind.u64.wrap ((p4 : Int) * 2 ^ t)))]) ∧ Below w.heap.size w w' := by
  have HC := Lib.hid hC; clear hC
  have E0 := Lib.hid e0; clear e0
  have G0 := Lib.hid g0; clear g0
  have G1 := Lib.hid g1; clear g1
  have G2 := Lib.hid g2; clear g2
  have G3 := Lib.hid g3; clear g3
  go_enter Try.func72, Try.ntmps72
  go_wp2_with fail
  refine (hS _).mono ?_
  rintro e w1 ⟨rfl, hb⟩
  obtain ⟨x0, -, -⟩ := after1 (b := w.heap.size + 1) (i := 0) (v := .int .u64 a0) hb (by simp) (by go_cell) (by go_cell)
  obtain ⟨x1, -, -⟩ := after1 (b := w.heap.size + 1) (i := 1) (v := .int .u64 a1) hb (by simp) (by go_cell) (by go_cell)
  obtain ⟨x2, -, -⟩ := after1 (b := w.heap.size + 1) (i := 2) (v := .int .u64 a2) hb (by simp) (by go_cell) (by go_cell)
  obtain ⟨x3, -, -⟩ := after1 (b := w.heap.size + 1) (i := 3) (v := .int .u64 a3) hb (by simp) (by go_cell) (by go_cell)
  obtain ⟨x4, -, -⟩ := after1 (b := w.heap.size + 1 + 1) (i := 0) (v := .int .u64 f) hb (by simp) (by go_cell) (by go_cell)
  obtain ⟨⟨q0, q1, q2, q3⟩, ⟨f0, f1, f2, f3⟩, hz, hb'⟩ := after4 (w := w) (B := w.heap.size) (w.heap.size + 1 + 1 + 1) hb (by go_grown) (by simp; omega) (by simp) (by go_cell) (by go_cell) (by go_cell) (by go_cell) (by go_cell) (by go_cell) (by go_cell) (by go_cell)
  clear hb
  have hz1 : w.heap.size + 1 < w1.heap.size := by omega
  have hz2 : w.heap.size + 1 + 1 < w1.heap.size := by omega
  go_wp2
  refine wp_loop_rounds 5 ?_
  rw [rounds_succ]; go_wp2
  refine region_still 19 (by kernel_rfl) (by kernel_rfl) ?_
  simp only [List.take_succ_cons, List.take_zero, List.drop_succ_cons, List.drop_zero]
  have e0 := E0.out
  repeat still_step
  still_call (HC.out (w.heap.size + 1) (w.heap.size + 1 + 1) _ (by go_cell) (by go_cell) (by go_cell) (by go_cell) (by go_cell)).1
  have g := G0.out
  repeat still_step
  clear g
  clear e0
  still_call (HC.out (w.heap.size + 1) (w.heap.size + 1 + 1) _ (by go_cell) (by go_cell) (by go_cell) (by go_cell) (by go_cell)).2.1
  repeat still_step
  refine wpStill_nil ?_
  go_wp2
  rw [rounds_succ]; go_wp2
  refine region_still 19 (by kernel_rfl) (by kernel_rfl) ?_
  simp only [List.take_succ_cons, List.take_zero, List.drop_succ_cons, List.drop_zero]
  repeat still_step
  still_call (HC.out (w.heap.size + 1) (w.heap.size + 1 + 1) _ (by go_cell) (by go_cell) (by go_cell) (by go_cell) (by go_cell)).2.1
  have g := G1.out
  repeat still_step
  clear g
  still_call (HC.out (w.heap.size + 1) (w.heap.size + 1 + 1) _ (by go_cell) (by go_cell) (by go_cell) (by go_cell) (by go_cell)).2.2.1
  repeat still_step
  refine wpStill_nil ?_
  go_wp2
  rw [rounds_succ]; go_wp2
  refine region_still 19 (by kernel_rfl) (by kernel_rfl) ?_
  simp only [List.take_succ_cons, List.take_zero, List.drop_succ_cons, List.drop_zero]
  repeat still_step
  still_call (HC.out (w.heap.size + 1) (w.heap.size + 1 + 1) _ (by go_cell) (by go_cell) (by go_cell) (by go_cell) (by go_cell)).2.2.1
  have g := G2.out
  repeat still_step
  clear g
  still_call (HC.out (w.heap.size + 1) (w.heap.size + 1 + 1) _ (by go_cell) (by go_cell) (by go_cell) (by go_cell) (by go_cell)).2.2.2.1
  repeat still_step
  refine wpStill_nil ?_
  go_wp2
  rw [rounds_succ]; go_wp2
  refine region_still 19 (by kernel_rfl) (by kernel_rfl) ?_
  simp only [List.take_succ_cons, List.take_zero, List.drop_succ_cons, List.drop_zero]
  repeat still_step
  still_call (HC.out (w.heap.size + 1) (w.heap.size + 1 + 1) _ (by go_cell) (by go_cell) (by go_cell) (by go_cell) (by go_cell)).2.2.2.1
  have g := G3.out
  repeat still_step
  clear g
  still_call (HC.out (w.heap.size + 1) (w.heap.size + 1 + 1) _ (by go_cell) (by go_cell) (by go_cell) (by go_cell) (by go_cell)).2.2.2.2
  repeat still_step
  refine wpStill_nil ?_
  go_wp2
  rw [rounds_succ]; go_wp2
  refine bodyPost_ret (by simp [results, Try.results72, go_sem, hz, q0, q1, q2, q3]; try rfl) rfl ⟨rfl, ?_⟩
  go_grown
end Go.Proofs.Ytfgefifplmhopaa
namespace Go.Proofs.Ytfgefifplmhopaa
open Go.RowKit

/-- The walk, by numbers: p's are the parts that come to each place. -/
theorem shl_parts (k0 k1 k2 k3 a0 a1 a2 a3 p0 p1 p2 p3 s t : Nat) (wh jm j0 j1 j2 j3 : Int) (hst : s + t = 64) (hs : s < 64)
    (u0 : p0 < 18446744073709551616) (u1 : p1 < 18446744073709551616) (u2 : p2 < 18446744073709551616)
    (e0 : IntKind.i64.wrap (-wh) = j0) (e1 : IntKind.i64.wrap (1 - wh) = j1) (e2 : IntKind.i64.wrap (2 - wh) = j2) (e3 : IntKind.i64.wrap (3 - wh) = j3)
    (g0 : IntKind.i64.wrap (j0 - 1) = jm) (g1 : IntKind.i64.wrap (j1 - 1) = j0) (g2 : IntKind.i64.wrap (j2 - 1) = j1) (g3 : IntKind.i64.wrap (j3 - 1) = j2) (w : World)
    (hC : ∀ (b : Nat) (W : World), W.cell? ⟨b, 0, none⟩ = some (.int .u64 a0) → W.cell? ⟨b, 1, none⟩ = some (.int .u64 a1) → W.cell? ⟨b, 2, none⟩ = some (.int .u64 a2) → W.cell? ⟨b, 3, none⟩ = some (.int .u64 a3) →
      (Calls Try.prog 85 #[.int .i64 jm, .pointer (some ⟨b, 0, none⟩)] W fun e w' => e = .returned (.int .u64 0) ∧ w' = W) ∧
      (Calls Try.prog 85 #[.int .i64 j0, .pointer (some ⟨b, 0, none⟩)] W fun e w' => e = .returned (.int .u64 p0) ∧ w' = W) ∧
      (Calls Try.prog 85 #[.int .i64 j1, .pointer (some ⟨b, 0, none⟩)] W fun e w' => e = .returned (.int .u64 p1) ∧ w' = W) ∧
      (Calls Try.prog 85 #[.int .i64 j2, .pointer (some ⟨b, 0, none⟩)] W fun e w' => e = .returned (.int .u64 p2) ∧ w' = W) ∧
      (Calls Try.prog 85 #[.int .i64 j3, .pointer (some ⟨b, 0, none⟩)] W fun e w' => e = .returned (.int .u64 p3) ∧ w' = W))
    (hS : ∀ w, Calls Try.prog 82 #[.agg #[.int .u64 k0, .int .u64 k1, .int .u64 k2, .int .u64 k3]] w fun e w' => e = .returned (.tuple #[.int .i64 wh, .int .i64 s]) ∧ Below w.heap.size w w') :
    Calls Try.prog 78 #[.agg #[.int .u64 k0, .int .u64 k1, .int .u64 k2, .int .u64 k3], .agg #[.int .u64 a0, .int .u64 a1, .int .u64 a2, .int .u64 a3]] w fun e w' =>
      e = .returned (wv (n4 p0 p1 p2 p3 * 2 ^ s)) ∧ Below w.heap.size w w' := by
  have ht : IntKind.i64.wrap (64 - (s : Int)) = (t : Int) := by rw [IntKind.wrap_i64]; omega
  have h := shl_walk k0 k1 k2 k3 a0 a1 a2 a3 0 p0 p1 p2 p3 s t wh jm j0 j1 j2 j3 (by omega) (by omega) ht (by omega) e0 e1 e2 e3 g0 g1 g2 g3 w hC hS
  rw [cmb_up (p := p0) (q := 0) (by omega) hst, cmb_up (p := p1) (q := p0) u0 hst, cmb_up (p := p2) (q := p1) u1 hst, cmb_up (p := p3) (q := p2) u2 hst,
    ← wv_n4 (cmb_lt (by omega) hst) (cmb_lt u0 hst) (cmb_lt u1 hst) (cmb_lt u2 hst), wv_congr (y := n4 p0 p1 p2 p3 * 2 ^ s)] at h
  · exact h
  · rw [← n4_up p0 p1 p2 p3 hst, Nat.add_mul_mod_self_left]

-- WHAT Shl COMES TO.
theorem shl_any (k x : Nat) (w : World) :
    Calls Try.prog 78 #[wv k, wv x] w fun e w' => e = .returned (wv (x * 2 ^ min (k % 115792089237316195423570985008687907853269984665640564039457584007913129639936) 256)) ∧ Below w.heap.size w w' := by
  have hS := fun w => steps_any k w
  obtain ⟨k0, k1, k2, k3, -, -, -, -, ek, -⟩ := wv_parts k
  obtain ⟨a0, a1, a2, a3, u0, u1, u2, u3, ea, na⟩ := wv_parts x
  generalize hm : min (k % 115792089237316195423570985008687907853269984665640564039457584007913129639936) 256 = m at *
  have hm256 : m ≤ 256 := by omega
  clear hm
  have hx : ∀ y z : Nat, y % 115792089237316195423570985008687907853269984665640564039457584007913129639936 = n4 a0 a1 a2 a3 * z % 115792089237316195423570985008687907853269984665640564039457584007913129639936 → z = 2 ^ m → wv y = wv (x * 2 ^ m) := by
    intro y z h hz
    refine wv_congr ?_
    rw [h, hz, na, Nat.mod_mul_mod]
  rw [ek] at hS
  rw [ek, ea]
  have hst : m % 64 + (64 - m % 64) = 64 := by omega
  have hs : m % 64 < 64 := by omega
  have hw : m / 64 = 0 ∨ m / 64 = 1 ∨ m / 64 = 2 ∨ m / 64 = 3 ∨ m / 64 = 4 := by omega
  have neg := fun (i : Int) (hi : i < 0) (b : Nat) (W : World) => part_neg i b hi W
  rcases hw with h | h | h | h | h
  all_goals rw [h] at hS
  · rw [← hx (n4 a0 a1 a2 a3 * 2 ^ (m % 64)) (2 ^ (m % 64)) rfl (by congr 1; omega)]
    exact shl_parts k0 k1 k2 k3 a0 a1 a2 a3 a0 a1 a2 a3 (m % 64) (64 - m % 64) 0 (-1) 0 1 2 3 hst hs u0 u1 u2 (by decide) (by decide) (by decide) (by decide) (by decide) (by decide) (by decide) (by decide) w
      (fun b W c0 c1 c2 c3 => ⟨neg _ (by omega) b W, part_at 0 b _ (by omega) (by omega) W c0, part_at 1 b _ (by omega) (by omega) W c1, part_at 2 b _ (by omega) (by omega) W c2, part_at 3 b _ (by omega) (by omega) W c3⟩) hS
  · rw [← hx (n4 0 a0 a1 a2 * 2 ^ (m % 64)) (18446744073709551616 * 2 ^ (m % 64)) (by rw [← Nat.mul_assoc, ← Nat.mod_mul_mod, ← Nat.mod_mul_mod (n4 a0 a1 a2 a3 * _)]; congr 2; unfold n4; omega) (by rw [show (18446744073709551616 : Nat) = 2 ^ 64 by decide, ← Nat.pow_add]; congr 1; omega)]
    exact shl_parts k0 k1 k2 k3 a0 a1 a2 a3 0 a0 a1 a2 (m % 64) (64 - m % 64) 1 (-2) (-1) 0 1 2 hst hs (by omega) u0 u1 (by decide) (by decide) (by decide) (by decide) (by decide) (by decide) (by decide) (by decide) w
      (fun b W c0 c1 c2 c3 => ⟨neg _ (by omega) b W, neg _ (by omega) b W, part_at 0 b _ (by omega) (by omega) W c0, part_at 1 b _ (by omega) (by omega) W c1, part_at 2 b _ (by omega) (by omega) W c2⟩) hS
  · rw [← hx (n4 0 0 a0 a1 * 2 ^ (m % 64)) (340282366920938463463374607431768211456 * 2 ^ (m % 64)) (by rw [← Nat.mul_assoc, ← Nat.mod_mul_mod, ← Nat.mod_mul_mod (n4 a0 a1 a2 a3 * _)]; congr 2; unfold n4; omega) (by rw [show (340282366920938463463374607431768211456 : Nat) = 2 ^ 128 by decide, ← Nat.pow_add]; congr 1; omega)]
    exact shl_parts k0 k1 k2 k3 a0 a1 a2 a3 0 0 a0 a1 (m % 64) (64 - m % 64) 2 (-3) (-2) (-1) 0 1 hst hs (by omega) (by omega) u0 (by decide) (by decide) (by decide) (by decide) (by decide) (by decide) (by decide) (by decide) w
      (fun b W c0 c1 c2 c3 => ⟨neg _ (by omega) b W, neg _ (by omega) b W, neg _ (by omega) b W, part_at 0 b _ (by omega) (by omega) W c0, part_at 1 b _ (by omega) (by omega) W c1⟩) hS
  · rw [← hx (n4 0 0 0 a0 * 2 ^ (m % 64)) (6277101735386680763835789423207666416102355444464034512896 * 2 ^ (m % 64)) (by rw [← Nat.mul_assoc, ← Nat.mod_mul_mod, ← Nat.mod_mul_mod (n4 a0 a1 a2 a3 * _)]; congr 2; unfold n4; omega) (by rw [show (6277101735386680763835789423207666416102355444464034512896 : Nat) = 2 ^ 192 by decide, ← Nat.pow_add]; congr 1; omega)]
    exact shl_parts k0 k1 k2 k3 a0 a1 a2 a3 0 0 0 a0 (m % 64) (64 - m % 64) 3 (-4) (-3) (-2) (-1) 0 hst hs (by omega) (by omega) (by omega) (by decide) (by decide) (by decide) (by decide) (by decide) (by decide) (by decide) (by decide) w
      (fun b W c0 c1 c2 c3 => ⟨neg _ (by omega) b W, neg _ (by omega) b W, neg _ (by omega) b W, neg _ (by omega) b W, part_at 0 b _ (by omega) (by omega) W c0⟩) hS
  · have hm0 : m % 64 = 0 := by omega
    rw [← hx (n4 0 0 0 0 * 2 ^ (m % 64)) (115792089237316195423570985008687907853269984665640564039457584007913129639936 * 2 ^ (m % 64)) (by rw [← Nat.mul_assoc, ← Nat.mod_mul_mod, ← Nat.mod_mul_mod (n4 a0 a1 a2 a3 * _)]; congr 2; unfold n4; omega) (by rw [show (115792089237316195423570985008687907853269984665640564039457584007913129639936 : Nat) = 2 ^ 256 by decide, ← Nat.pow_add]; congr 1; omega)]
    exact shl_parts k0 k1 k2 k3 a0 a1 a2 a3 0 0 0 0 (m % 64) (64 - m % 64) 4 (-5) (-4) (-3) (-2) (-1) hst hs (by omega) (by omega) (by omega) (by decide) (by decide) (by decide) (by decide) (by decide) (by decide) (by decide) (by decide) w
      (fun b W c0 c1 c2 c3 => ⟨neg _ (by omega) b W, neg _ (by omega) b W, neg _ (by omega) b W, neg _ (by omega) b W, neg _ (by omega) b W⟩) hS
end Go.Proofs.Ytfgefifplmhopaa
namespace Go.Proofs.Ytfgefifplmhopaa
open Go.RowKit

/-- Both halves of all ones, shifted down alike, are all ones together. -/
theorem comp_down {p q s t : Nat} (hp : p < 18446744073709551616) (hq : q < 18446744073709551616) (h : s + t = 64) :
    p / 2 ^ s + q * 2 ^ t % 18446744073709551616 + ((18446744073709551615 - p) / 2 ^ s + (18446744073709551615 - q) * 2 ^ t % 18446744073709551616) = 18446744073709551615 := by
  have hD := pow_split h
  have hS : 0 < 2 ^ s := Nat.two_pow_pos s
  have hT : 0 < 2 ^ t := Nat.two_pow_pos t
  have e : ∀ y, y * 2 ^ t % 18446744073709551616 = 2 ^ t * (y % 2 ^ s) := fun y => by
    rw [← hD, Nat.mul_comm (2 ^ s), Nat.mul_comm y, Nat.mul_mod_mul_left]
  rw [e, e]
  -- p and what it lacks, by 2^s
  have d1 : (18446744073709551615 - p) / 2 ^ s = 2 ^ t - 1 - p / 2 ^ s := by
    have hp' : p < 2 ^ s * 2 ^ t := by omega
    have h2 : 18446744073709551615 - p = 2 ^ s * (2 ^ t - 1 - p / 2 ^ s) + (2 ^ s - 1 - p % 2 ^ s) := by
      have hm := Nat.div_add_mod p (2 ^ s)
      have hl : p / 2 ^ s < 2 ^ t := by rw [Nat.div_lt_iff_lt_mul hS, Nat.mul_comm]; exact hp'
      have hr := Nat.mod_lt p hS
      have : 2 ^ s * (2 ^ t - 1 - p / 2 ^ s) + 2 ^ s * (p / 2 ^ s) + 2 ^ s = 2 ^ s * 2 ^ t := by
        rw [← Nat.mul_add, ← Nat.mul_succ]; congr 1; omega
      omega
    have hr := Nat.mod_lt p hS
    rw [h2, Nat.mul_add_div hS, Nat.div_eq_of_lt (show 2 ^ s - 1 - p % 2 ^ s < 2 ^ s by omega), Nat.add_zero]
  have d2 : (18446744073709551615 - q) % 2 ^ s = 2 ^ s - 1 - q % 2 ^ s := by
    have hq' : q < 2 ^ s * 2 ^ t := by omega
    have h2 : 18446744073709551615 - q = 2 ^ s * (2 ^ t - 1 - q / 2 ^ s) + (2 ^ s - 1 - q % 2 ^ s) := by
      have hm := Nat.div_add_mod q (2 ^ s)
      have hl : q / 2 ^ s < 2 ^ t := by rw [Nat.div_lt_iff_lt_mul hS, Nat.mul_comm]; exact hq'
      have hr := Nat.mod_lt q hS
      have : 2 ^ s * (2 ^ t - 1 - q / 2 ^ s) + 2 ^ s * (q / 2 ^ s) + 2 ^ s = 2 ^ s * 2 ^ t := by
        rw [← Nat.mul_add, ← Nat.mul_succ]; congr 1; omega
      omega
    have hr := Nat.mod_lt q hS
    rw [h2, Nat.mul_add_mod, Nat.mod_eq_of_lt (by omega)]
  rw [d1, d2]
  have hl : p / 2 ^ s < 2 ^ t := by rw [Nat.div_lt_iff_lt_mul hS, Nat.mul_comm, hD]; exact hp
  have hr := Nat.mod_lt q hS
  have : 2 ^ t * (q % 2 ^ s) + 2 ^ t * (2 ^ s - 1 - q % 2 ^ s) + 2 ^ t = 2 ^ s * 2 ^ t := by
    rw [← Nat.mul_add, ← Nat.mul_succ, Nat.mul_comm (2 ^ s)]; congr 1; omega
  omega

theorem down_lt {p q s t : Nat} (hp : p < 18446744073709551616) (h : s + t = 64) : p / 2 ^ s + q * 2 ^ t % 18446744073709551616 < 18446744073709551616 := by
  have hD := pow_split h
  have hS : 0 < 2 ^ s := Nat.two_pow_pos s
  have hps : p / 2 ^ s < 2 ^ t := by rw [Nat.div_lt_iff_lt_mul hS, Nat.mul_comm, hD]; exact hp
  have e : q * 2 ^ t % 18446744073709551616 = 2 ^ t * (q % 2 ^ s) := by
    rw [← hD, Nat.mul_comm (2 ^ s), Nat.mul_comm q, Nat.mul_mod_mul_left]
  have hr := Nat.mod_lt q hS
  have : 2 ^ t * (q % 2 ^ s) + 2 ^ t ≤ 2 ^ s * 2 ^ t := by
    rw [← Nat.mul_succ, Nat.mul_comm (2 ^ s)]; exact Nat.mul_le_mul_left _ hr
  omega

/-- The walk, by numbers. -/
theorem down_parts (k0 k1 k2 k3 a0 a1 a2 a3 f p0 p1 p2 p3 p4 s t : Nat) (wh j0 j1 j2 j3 j4 : Int) (hst : s + t = 64) (hs : s < 64)
    (u0 : p0 < 18446744073709551616) (u1 : p1 < 18446744073709551616) (u2 : p2 < 18446744073709551616) (u3 : p3 < 18446744073709551616)
    (e0 : IntKind.i64.wrap wh = j0) (e1 : IntKind.i64.wrap (1 + wh) = j1) (e2 : IntKind.i64.wrap (2 + wh) = j2) (e3 : IntKind.i64.wrap (3 + wh) = j3)
    (g0 : IntKind.i64.wrap (j0 + 1) = j1) (g1 : IntKind.i64.wrap (j1 + 1) = j2) (g2 : IntKind.i64.wrap (j2 + 1) = j3) (g3 : IntKind.i64.wrap (j3 + 1) = j4) (w : World)
    (hC : ∀ (b c : Nat) (W : World), W.cell? ⟨b, 0, none⟩ = some (.int .u64 a0) → W.cell? ⟨b, 1, none⟩ = some (.int .u64 a1) → W.cell? ⟨b, 2, none⟩ = some (.int .u64 a2) → W.cell? ⟨b, 3, none⟩ = some (.int .u64 a3) → W.cell? ⟨c, 0, none⟩ = some (.int .u64 f) →
      (Calls Try.prog 83 #[.int .i64 j0, .pointer (some ⟨b, 0, none⟩), .pointer (some ⟨c, 0, none⟩)] W fun e w' => e = .returned (.int .u64 p0) ∧ w' = W) ∧
      (Calls Try.prog 83 #[.int .i64 j1, .pointer (some ⟨b, 0, none⟩), .pointer (some ⟨c, 0, none⟩)] W fun e w' => e = .returned (.int .u64 p1) ∧ w' = W) ∧
      (Calls Try.prog 83 #[.int .i64 j2, .pointer (some ⟨b, 0, none⟩), .pointer (some ⟨c, 0, none⟩)] W fun e w' => e = .returned (.int .u64 p2) ∧ w' = W) ∧
      (Calls Try.prog 83 #[.int .i64 j3, .pointer (some ⟨b, 0, none⟩), .pointer (some ⟨c, 0, none⟩)] W fun e w' => e = .returned (.int .u64 p3) ∧ w' = W) ∧
      (Calls Try.prog 83 #[.int .i64 j4, .pointer (some ⟨b, 0, none⟩), .pointer (some ⟨c, 0, none⟩)] W fun e w' => e = .returned (.int .u64 p4) ∧ w' = W))
    (hS : ∀ w, Calls Try.prog 82 #[.agg #[.int .u64 k0, .int .u64 k1, .int .u64 k2, .int .u64 k3]] w fun e w' => e = .returned (.tuple #[.int .i64 wh, .int .i64 s]) ∧ Below w.heap.size w w') :
    Calls Try.prog 72 #[.agg #[.int .u64 k0, .int .u64 k1, .int .u64 k2, .int .u64 k3], .agg #[.int .u64 a0, .int .u64 a1, .int .u64 a2, .int .u64 a3], .int .u64 f] w fun e w' =>
      e = .returned (wv (n4 (p0 / 2 ^ s + p1 * 2 ^ t % 18446744073709551616) (p1 / 2 ^ s + p2 * 2 ^ t % 18446744073709551616) (p2 / 2 ^ s + p3 * 2 ^ t % 18446744073709551616) (p3 / 2 ^ s + p4 * 2 ^ t % 18446744073709551616))) ∧ Below w.heap.size w w' := by
  have ht : IntKind.i64.wrap (64 - (s : Int)) = (t : Int) := by rw [IntKind.wrap_i64]; omega
  have h := down_walk k0 k1 k2 k3 a0 a1 a2 a3 f p0 p1 p2 p3 p4 s t wh j0 j1 j2 j3 j4 (by omega) (by omega) ht (by omega) e0 e1 e2 e3 g0 g1 g2 g3 w hC hS
  rw [cmb_down (p := p0) (q := p1) u0 hst, cmb_down (p := p1) (q := p2) u1 hst, cmb_down (p := p2) (q := p3) u2 hst, cmb_down (p := p3) (q := p4) u3 hst,
    ← wv_n4 (down_lt u0 hst) (down_lt u1 hst) (down_lt u2 hst) (down_lt u3 hst)] at h
  exact h

/-- What the parts come to at each distance: a is a word's part or, above them, f. -/
def sel (a0 a1 a2 a3 f : Nat) (i : Nat) : Nat := match i with | 0 => a0 | 1 => a1 | 2 => a2 | 3 => a3 | _ => f

theorem down_sel (k x m f : Nat) (a0 a1 a2 a3 : Nat) (hf : f < 18446744073709551616) (u0 : a0 < 18446744073709551616) (u1 : a1 < 18446744073709551616) (u2 : a2 < 18446744073709551616) (u3 : a3 < 18446744073709551616) (hm : m ≤ 256)
    (ea : wv x = .agg #[.int .u64 a0, .int .u64 a1, .int .u64 a2, .int .u64 a3])
    (hS : ∀ w, Calls Try.prog 82 #[wv k] w fun e w' => e = .returned (.tuple #[.int .i64 ((m / 64 : Nat) : Int), .int .i64 ((m % 64 : Nat) : Int)]) ∧ Below w.heap.size w w') (w : World) :
    Calls Try.prog 72 #[wv k, wv x, .int .u64 f] w fun e w' =>
      e = .returned (wv (n4 (sel a0 a1 a2 a3 f (m / 64) / 2 ^ (m % 64) + sel a0 a1 a2 a3 f (m / 64 + 1) * 2 ^ (64 - m % 64) % 18446744073709551616) (sel a0 a1 a2 a3 f (m / 64 + 1) / 2 ^ (m % 64) + sel a0 a1 a2 a3 f (m / 64 + 2) * 2 ^ (64 - m % 64) % 18446744073709551616)
        (sel a0 a1 a2 a3 f (m / 64 + 2) / 2 ^ (m % 64) + sel a0 a1 a2 a3 f (m / 64 + 3) * 2 ^ (64 - m % 64) % 18446744073709551616) (sel a0 a1 a2 a3 f (m / 64 + 3) / 2 ^ (m % 64) + f * 2 ^ (64 - m % 64) % 18446744073709551616))) ∧ Below w.heap.size w w' := by
  obtain ⟨k0, k1, k2, k3, -, -, -, -, ek, -⟩ := wv_parts k
  rw [ek] at hS
  rw [ek, ea]
  have hst : m % 64 + (64 - m % 64) = 64 := by omega
  have hs : m % 64 < 64 := by omega
  have hw : m / 64 = 0 ∨ m / 64 = 1 ∨ m / 64 = 2 ∨ m / 64 = 3 ∨ m / 64 = 4 := by omega
  have past := fun (i : Int) (hi : 4 ≤ i) (b c : Nat) (W : World) (h : W.cell? ⟨c, 0, none⟩ = some (.int .u64 f)) => down_past i b c _ hi W h
  rcases hw with h | h | h | h | h
  all_goals rw [h] at hS ⊢
  · exact down_parts k0 k1 k2 k3 a0 a1 a2 a3 f a0 a1 a2 a3 f (m % 64) (64 - m % 64) 0 0 1 2 3 4 hst hs u0 u1 u2 u3 (by decide) (by decide) (by decide) (by decide) (by decide) (by decide) (by decide) (by decide) w
      (fun b c W c0 c1 c2 c3 cf => ⟨down_at 0 b c _ (by omega) (by omega) W c0, down_at 1 b c _ (by omega) (by omega) W c1, down_at 2 b c _ (by omega) (by omega) W c2, down_at 3 b c _ (by omega) (by omega) W c3, past 4 (by omega) b c W cf⟩) hS
  · exact down_parts k0 k1 k2 k3 a0 a1 a2 a3 f a1 a2 a3 f f (m % 64) (64 - m % 64) 1 1 2 3 4 5 hst hs u1 u2 u3 hf (by decide) (by decide) (by decide) (by decide) (by decide) (by decide) (by decide) (by decide) w
      (fun b c W c0 c1 c2 c3 cf => ⟨down_at 1 b c _ (by omega) (by omega) W c1, down_at 2 b c _ (by omega) (by omega) W c2, down_at 3 b c _ (by omega) (by omega) W c3, past 4 (by omega) b c W cf, past 5 (by omega) b c W cf⟩) hS
  · exact down_parts k0 k1 k2 k3 a0 a1 a2 a3 f a2 a3 f f f (m % 64) (64 - m % 64) 2 2 3 4 5 6 hst hs u2 u3 hf hf (by decide) (by decide) (by decide) (by decide) (by decide) (by decide) (by decide) (by decide) w
      (fun b c W c0 c1 c2 c3 cf => ⟨down_at 2 b c _ (by omega) (by omega) W c2, down_at 3 b c _ (by omega) (by omega) W c3, past 4 (by omega) b c W cf, past 5 (by omega) b c W cf, past 6 (by omega) b c W cf⟩) hS
  · exact down_parts k0 k1 k2 k3 a0 a1 a2 a3 f a3 f f f f (m % 64) (64 - m % 64) 3 3 4 5 6 7 hst hs u3 hf hf hf (by decide) (by decide) (by decide) (by decide) (by decide) (by decide) (by decide) (by decide) w
      (fun b c W c0 c1 c2 c3 cf => ⟨down_at 3 b c _ (by omega) (by omega) W c3, past 4 (by omega) b c W cf, past 5 (by omega) b c W cf, past 6 (by omega) b c W cf, past 7 (by omega) b c W cf⟩) hS
  · exact down_parts k0 k1 k2 k3 a0 a1 a2 a3 f f f f f f (m % 64) (64 - m % 64) 4 4 5 6 7 8 hst hs hf hf hf hf (by decide) (by decide) (by decide) (by decide) (by decide) (by decide) (by decide) (by decide) w
      (fun b c W c0 c1 c2 c3 cf => ⟨past 4 (by omega) b c W cf, past 5 (by omega) b c W cf, past 6 (by omega) b c W cf, past 7 (by omega) b c W cf, past 8 (by omega) b c W cf⟩) hS

theorem n4_sel (a0 a1 a2 a3 : Nat) (u0 : a0 < 18446744073709551616) (u1 : a1 < 18446744073709551616) (u2 : a2 < 18446744073709551616) (u3 : a3 < 18446744073709551616) (i : Nat) (hi : i ≤ 4) :
    n4 (sel a0 a1 a2 a3 0 i) (sel a0 a1 a2 a3 0 (i + 1)) (sel a0 a1 a2 a3 0 (i + 2)) (sel a0 a1 a2 a3 0 (i + 3)) = n4 a0 a1 a2 a3 / 2 ^ (64 * i) := by
  have hw : i = 0 ∨ i = 1 ∨ i = 2 ∨ i = 3 ∨ i = 4 := by omega
  rcases hw with rfl | rfl | rfl | rfl | rfl <;> simp only [sel, Nat.reduceMul, Nat.reducePow, Nat.reduceAdd] <;> unfold n4 <;> omega

-- WHAT shiftDown COMES TO, noughts from above.
theorem down0_any (k x : Nat) (w : World) :
    Calls Try.prog 72 #[wv k, wv x, .int .u64 0] w fun e w' => e = .returned (wv (x % 115792089237316195423570985008687907853269984665640564039457584007913129639936 / 2 ^ min (k % 115792089237316195423570985008687907853269984665640564039457584007913129639936) 256)) ∧ Below w.heap.size w w' := by
  have hS := fun w => steps_any k w
  obtain ⟨a0, a1, a2, a3, u0, u1, u2, u3, ea, na⟩ := wv_parts x
  generalize hm : min (k % 115792089237316195423570985008687907853269984665640564039457584007913129639936) 256 = m at *
  have hm256 : m ≤ 256 := by omega
  clear hm
  have h := down_sel k x m 0 a0 a1 a2 a3 (by omega) u0 u1 u2 u3 hm256 ea hS w
  rw [n4_down _ _ _ _ 0 (show m % 64 + (64 - m % 64) = 64 by omega), n4_sel a0 a1 a2 a3 u0 u1 u2 u3 _ (by omega), na, Nat.div_div_eq_div_mul, ← Nat.pow_add, show 64 * (m / 64) + m % 64 = m by omega, Nat.zero_mul] at h
  exact h

theorem n4_comp {c0 c1 c2 c3 d0 d1 d2 d3 : Nat} (h0 : c0 + d0 = 18446744073709551615) (h1 : c1 + d1 = 18446744073709551615) (h2 : c2 + d2 = 18446744073709551615) (h3 : c3 + d3 = 18446744073709551615) : n4 c0 c1 c2 c3 = 115792089237316195423570985008687907853269984665640564039457584007913129639935 - n4 d0 d1 d2 d3 := by unfold n4; omega
theorem sel_comp (a0 a1 a2 a3 i : Nat) (u0 : a0 < 18446744073709551616) (u1 : a1 < 18446744073709551616) (u2 : a2 < 18446744073709551616) (u3 : a3 < 18446744073709551616) : sel a0 a1 a2 a3 18446744073709551615 i < 18446744073709551616 ∧ 18446744073709551615 - sel a0 a1 a2 a3 18446744073709551615 i = sel (18446744073709551615 - a0) (18446744073709551615 - a1) (18446744073709551615 - a2) (18446744073709551615 - a3) 0 i := by
  unfold sel
  split <;> omega

-- WHAT shiftDown COMES TO, ones from above.
theorem down1_any (k x : Nat) (w : World) :
    Calls Try.prog 72 #[wv k, wv x, .int .u64 18446744073709551615] w fun e w' => e = .returned (wv (115792089237316195423570985008687907853269984665640564039457584007913129639935 - (115792089237316195423570985008687907853269984665640564039457584007913129639935 - x % 115792089237316195423570985008687907853269984665640564039457584007913129639936) / 2 ^ min (k % 115792089237316195423570985008687907853269984665640564039457584007913129639936) 256)) ∧ Below w.heap.size w w' := by
  have hS := fun w => steps_any k w
  obtain ⟨a0, a1, a2, a3, u0, u1, u2, u3, ea, na⟩ := wv_parts x
  generalize hm : min (k % 115792089237316195423570985008687907853269984665640564039457584007913129639936) 256 = m at *
  have hm256 : m ≤ 256 := by omega
  clear hm
  have h := down_sel k x m 18446744073709551615 a0 a1 a2 a3 (by omega) u0 u1 u2 u3 hm256 ea hS w
  have hst : m % 64 + (64 - m % 64) = 64 := by omega
  have S := fun i => sel_comp a0 a1 a2 a3 i u0 u1 u2 u3
  have C := fun i j => comp_down (p := sel a0 a1 a2 a3 18446744073709551615 i) (q := sel a0 a1 a2 a3 18446744073709551615 j) (S i).1 (S j).1 hst
  have C4 := comp_down (p := sel a0 a1 a2 a3 18446744073709551615 (m / 64 + 3)) (q := 18446744073709551615) (S _).1 (by omega) hst
  rw [n4_comp (C _ _) (C _ _) (C _ _) C4] at h
  simp only [(S _).2] at h
  rw [show 18446744073709551615 - 18446744073709551615 = 0 by omega] at h
  rw [n4_down _ _ _ _ 0 hst, n4_sel _ _ _ _ (by omega) (by omega) (by omega) (by omega) _ (by omega), Nat.div_div_eq_div_mul, ← Nat.pow_add, show 64 * (m / 64) + m % 64 = m by omega, Nat.zero_mul,
    show n4 (18446744073709551615 - a0) (18446744073709551615 - a1) (18446744073709551615 - a2) (18446744073709551615 - a3) = 115792089237316195423570985008687907853269984665640564039457584007913129639935 - x % 115792089237316195423570985008687907853269984665640564039457584007913129639936 by rw [← na]; unfold n4; omega] at h
  exact h
end Go.Proofs.Ytfgefifplmhopaa
namespace Go.Proofs.Ytfgefifplmhopaa
open Go.RowKit

theorem bdec {p q : Prop} [Decidable p] [Decidable q] (h : p ↔ q) : decide p = decide q := by simp [h]

theorem xor_ones {a : Nat} (h : a < 18446744073709551616) : bits .xor .u64 IntKind.u64.max (a : Int) = ((18446744073709551615 - a : Nat) : Int) := by
  have e : (18446744073709551615 : Nat) ^^^ a = 18446744073709551615 - a := by
    apply Nat.eq_of_testBit_eq
    intro i
    rw [Nat.testBit_xor, show 18446744073709551615 - a = 2 ^ 64 - (a + 1) by omega, Nat.testBit_two_pow_sub_succ (by omega), show (18446744073709551615 : Nat) = 2 ^ 64 - 1 by decide, Nat.testBit_two_pow_sub_one]
    by_cases hi : i < 64
    · simp [hi]
    · have : a.testBit i = false := Nat.testBit_lt_two_pow (Nat.lt_of_lt_of_le h (by have := Nat.pow_le_pow_right (n := 2) (by omega) (show 64 ≤ i by omega); omega))
      simp [hi, this]
  have := bits_xor_u64_nat 18446744073709551615 a (by omega) h
  rw [e] at this
  exact this

set_option maxRecDepth 100000 in
set_option maxHeartbeats 1000000 in
theorem not_walk (a0 a1 a2 a3 : Nat) (w : World) :
    Calls Try.prog 58 #[.agg #[.int .u64 a0, .int .u64 a1, .int .u64 a2, .int .u64 a3]] w fun e w' => e = .returned (.agg #[.int .u64 (bits .xor .u64 IntKind.u64.max (a0 : Int)), .int .u64 (bits .xor .u64 IntKind.u64.max (a1 : Int)), .int .u64 (bits .xor .u64 IntKind.u64.max (a2 : Int)), .int .u64 (bits .xor .u64 IntKind.u64.max (a3 : Int))]) ∧ Below w.heap.size w w' := by
  go_enter Try.func58, Try.ntmps58
  go_wp2
  refine wp_loop_rounds 5 ?_
  iterate 4 (rw [rounds_succ]; go_wp2)
  rw [rounds_succ]
  go_wp2
  go_returns
  exact ⟨rfl, by go_grown⟩

-- WHAT Not COMES TO.
theorem not_any (x : Nat) (w : World) :
    Calls Try.prog 58 #[wv x] w fun e w' => e = .returned (wv (115792089237316195423570985008687907853269984665640564039457584007913129639935 - x % 115792089237316195423570985008687907853269984665640564039457584007913129639936)) ∧ Below w.heap.size w w' := by
  obtain ⟨a0, a1, a2, a3, u0, u1, u2, u3, ea, na⟩ := wv_parts x
  rw [ea, ← na, ← n4_comp (c0 := 18446744073709551615 - a0) (c1 := 18446744073709551615 - a1) (c2 := 18446744073709551615 - a2) (c3 := 18446744073709551615 - a3) (by omega) (by omega) (by omega) (by omega), wv_n4 (by omega) (by omega) (by omega) (by omega), ← xor_ones u0, ← xor_ones u1, ← xor_ones u2, ← xor_ones u3]
  exact not_walk a0 a1 a2 a3 w

set_option maxRecDepth 100000 in
set_option maxHeartbeats 1000000 in
theorem shr_walk (a0 a1 a2 a3 b0 b1 b2 b3 p0 p1 p2 p3 : Nat) (w : World)
    (hP : ∀ w, Calls Try.prog 72 #[.agg #[.int .u64 a0, .int .u64 a1, .int .u64 a2, .int .u64 a3], .agg #[.int .u64 b0, .int .u64 b1, .int .u64 b2, .int .u64 b3], .int .u64 0] w fun e w' =>
      e = .returned (.agg #[.int .u64 p0, .int .u64 p1, .int .u64 p2, .int .u64 p3]) ∧ Below w.heap.size w w') :
    Calls Try.prog 55 #[.agg #[.int .u64 a0, .int .u64 a1, .int .u64 a2, .int .u64 a3], .agg #[.int .u64 b0, .int .u64 b1, .int .u64 b2, .int .u64 b3]] w fun e w' =>
      e = .returned (.agg #[.int .u64 p0, .int .u64 p1, .int .u64 p2, .int .u64 p3]) ∧ Below w.heap.size w w' := by
  go_enter Try.func55, Try.ntmps55
  go_wp2_with fail
  refine (hP _).mono ?_
  rintro e w1 ⟨rfl, hb⟩
  obtain ⟨⟨q0, q1, q2, q3⟩, ⟨f0, f1, f2, f3⟩, hz, hb'⟩ := after4 (w := w) (B := w.heap.size) (w.heap.size + 1 + 1) hb (by go_grown) (by simp; omega) (by simp) (by go_cell) (by go_cell) (by go_cell) (by go_cell) (by go_cell) (by go_cell) (by go_cell) (by go_cell)
  clear hb
  go_wp2
  refine bodyPost_ret (by simp [results, Try.results55, go_sem, q0, q1, q2, q3]; try rfl) rfl ⟨rfl, ?_⟩
  go_grown

-- WHAT Shr COMES TO.
theorem shr_any (k x : Nat) (w : World) :
    Calls Try.prog 55 #[wv k, wv x] w fun e w' => e = .returned (wv (x % 115792089237316195423570985008687907853269984665640564039457584007913129639936 / 2 ^ min (k % 115792089237316195423570985008687907853269984665640564039457584007913129639936) 256)) ∧ Below w.heap.size w w' := by
  have hP := fun w => down0_any k x w
  obtain ⟨k0, k1, k2, k3, -, -, -, -, ek, -⟩ := wv_parts k
  obtain ⟨a0, a1, a2, a3, -, -, -, -, ea, -⟩ := wv_parts x
  obtain ⟨p0, p1, p2, p3, -, -, -, -, ep, -⟩ := wv_parts (x % 115792089237316195423570985008687907853269984665640564039457584007913129639936 / 2 ^ min (k % 115792089237316195423570985008687907853269984665640564039457584007913129639936) 256)
  rw [ek, ea, ep] at hP
  rw [ek, ea, ep]
  exact shr_walk k0 k1 k2 k3 a0 a1 a2 a3 p0 p1 p2 p3 w hP

end Go.Proofs.Ytfgefifplmhopaa
namespace Go.Proofs.Ytfgefifplmhopaa
open Go.RowKit

/-- A word's parts. -/
def pw (x : Nat) : Array Value := #[.int .u64 ((x % 18446744073709551616 : Nat) : Int), .int .u64 ((x / 18446744073709551616 % 18446744073709551616 : Nat) : Int), .int .u64 ((x / 340282366920938463463374607431768211456 % 18446744073709551616 : Nat) : Int), .int .u64 ((x / 6277101735386680763835789423207666416102355444464034512896 % 18446744073709551616 : Nat) : Int)]
theorem wv_pw (x : Nat) : wv x = .agg (pw x) := rfl
theorem pw_size (x : Nat) : (pw x).size = 4 := rfl
theorem pw_one (x : Nat) : (pw x).all (·.oneCell') = true := by simp [pw, Value.oneCell']
theorem infoWord : (Try.prog.info? 24).map (·.size) = some 4 := by kernel_rfl

/-- A slice of n digits with the number V, wherever it lies. -/
def DgV (n V : Nat) (v : Value) (w : World) : Prop := ∃ (b cap : Nat) (d : Nat → Nat), v = .slice (some ⟨b, 0, none⟩) n cap ∧ Dg w b n d ∧ (∀ j, j < n → d j < 65536) ∧ vd d n = V
/-- All blocks but one are as they were. -/
def Rb (S : Nat) (w w' : World) : Prop := w.heap.size ≤ w'.heap.size ∧ ∀ k, k < w.heap.size → k ≠ S → w'.heap[k]? = w.heap[k]?
theorem Rb.refl (S : Nat) (w : World) : Rb S w w := ⟨Nat.le_refl _, fun _ _ _ => rfl⟩
theorem Rb.of {S : Nat} {w w' : World} (h : Below w.heap.size w w') : Rb S w w' := ⟨h.size, fun _ hk _ => h.block _ hk⟩
theorem Rb.row {S g : Nat} {w : World} (cs : Array Value) (hg : g = S) : Rb S w (w.setRow g cs) := by
  subst hg
  exact ⟨by simp, fun k _ hk => setRow_other _ _ _ _ hk⟩
/-- .. that lies elsewhere stays. -/
def DgS (S n V : Nat) (v : Value) (w : World) : Prop := ∃ (b cap : Nat) (d : Nat → Nat), v = .slice (some ⟨b, 0, none⟩) n cap ∧ b ≠ S ∧ Dg w b n d ∧ (∀ j, j < n → d j < 65536) ∧ vd d n = V
theorem DgS.keep {S n V : Nat} {v : Value} {w w' : World} (hR : Rb S w w') (h : DgS S n V v w) : DgS S n V v w' := by
  obtain ⟨b, cap, d, rfl, hne, hD, h1, h2⟩ := h
  exact ⟨b, cap, d, rfl, hne, ⟨Nat.lt_of_lt_of_le hD.1 hR.1, fun j hj => (World.cell?_of_block (w := w) (a := ⟨b, j, none⟩) (hR.2 b hD.1 hne)).trans (hD.2 j hj)⟩, h1, h2⟩

/-- .. and if that one holds the word V, it goes on to. -/
def Rs (S V : Nat) (w w' : World) : Prop := Rb S w w' ∧ (w.heap[S]? = some (.cells (pw V) 24 (0, 0)) → w'.heap[S]? = some (.cells (pw V) 24 (0, 0)))
theorem Rs.refl (S V : Nat) (w : World) : Rs S V w w := ⟨Rb.refl _ _, id⟩
theorem Rs.of {S V : Nat} {w w' : World} (hS : S < w.heap.size) (h : Below w.heap.size w w') : Rs S V w w' := ⟨Rb.of h, fun e => (h.block _ hS).trans e⟩
theorem Rs.row {S V : Nat} {w : World} {cs : Array Value} (hg : w.heap[S]? = some (.cells cs 24 (0, 0))) : Rs S V w (w.setRow S (pw V)) := ⟨Rb.row _ rfl, fun _ => setRow_heap _ _ _ _ _ _ hg⟩
theorem mk_step {S n V : Nat} {w w' : World} {e : Ending} (hS : S < w.heap.size) (h : MkDg n V w e w') : ∃ v, e = .returned v ∧ Below w.heap.size w w' ∧ DgS S n V v w' := by
  obtain ⟨b, cap, d, rfl, hb, hD, h1, h2, hB⟩ := h
  exact ⟨_, rfl, hB, b, cap, d, rfl, by omega, hD, h1, h2⟩

/-- The worlds of a call on two words that lie in the call's first two blocks, its result in the third. -/
def CB (w : World) (x y : Nat) (wx : World) : Prop :=
  Below w.heap.size w wx ∧ wx.heap[w.heap.size]? = some (.cells (pw x) 24 (0, 0)) ∧ wx.heap[w.heap.size + 1]? = some (.cells (pw y) 24 (0, 0)) ∧ ∃ cs : Array Value, cs.size = 4 ∧ wx.heap[w.heap.size + 1 + 1]? = some (.cells cs 24 (0, 0))
theorem CB.lt {w wx : World} {x y : Nat} (h : CB w x y wx) : w.heap.size + 1 + 1 < wx.heap.size := by
  obtain ⟨-, -, -, cs, -, hc⟩ := h
  exact (Array.getElem?_eq_some_iff.1 hc).1
theorem CB.below {w wx w' : World} {x y : Nat} (h : CB w x y wx) (hb : Below wx.heap.size wx w') : CB w x y w' := by
  have hl := h.lt
  obtain ⟨h0, h1, h2, cs, hs, hc⟩ := h
  exact ⟨h0.trans (hb.mono h0.size), (hb.block _ (by omega)).trans h1, (hb.block _ (by omega)).trans h2, cs, hs, (hb.block _ hl).trans hc⟩
theorem CB.row {w wx : World} {x y : Nat} (h : CB w x y wx) (cs : Array Value) (hs : cs.size = 4) : CB w x y (wx.setRow (w.heap.size + 1 + 1) cs) := by
  obtain ⟨h0, h1, h2, cs0, hs0, hc⟩ := h
  exact ⟨below_setRow h0 (by omega) _, (setRow_other _ _ _ _ (by omega)).trans h1, (setRow_other _ _ _ _ (by omega)).trans h2, cs, hs, setRow_heap _ _ _ _ _ _ hc⟩
theorem load_pw {g x : Nat} {w : World} (hg : w.heap[g]? = some (.cells (pw x) 24 (0, 0))) : (Instr.loadAt 24 (.pointer (some ⟨g, 0, none⟩))).run Try.prog w = .ok (wv x) w := by
  simp only [Instr.loadAt, Instr.sureAddr, Sem.run_bind, Sem.run_pure, Result.andThen_ok, run_loadVar_row w g 24 24 (pw x) (0, 0) _ hg Try.underlying24 rfl infoWord]
  rfl
theorem store_pw {g x : Nat} {w : World} {cs : Array Value} (hs : cs.size = 4) (hg : w.heap[g]? = some (.cells cs 24 (0, 0))) : (Instr.storeAt 24 (.pointer (some ⟨g, 0, none⟩)) (wv x)).run Try.prog w = .ok () (w.setRow g (pw x)) := by
  rw [wv_pw]
  simp only [Instr.storeAt, Instr.sureAddr, Sem.run_bind, Sem.run_pure, Result.andThen_ok, run_storeVar_row w g 24 24 cs (pw x) hg infoWord hs (pw_one x)]
theorem run_store {P : Program} {a : Act} {o : Oper} {w w' : World} (t : TypeId) (p q : Operand) (u v : Value) (ho : o.op = .store t p q) (hp : a.eval p = u) (hq : a.eval q = v) (h : (Instr.storeAt t u v).run P w = .ok () w') : (execOp a.eval o).run P w = .ok .skip w' := by
  unfold execOp
  rw [ho]
  simp only [hp, hq, Sem.run_bind, h, Result.andThen_ok, Sem.run_pure]

end Go.Proofs.Ytfgefifplmhopaa
namespace Go.Proofs.Ytfgefifplmhopaa
open Go.RowKit

theorem nan_any (x : Nat) (w : World) : Calls Try.prog 75 #[.int .u64 x] w fun e w' => e = .returned (.bool false) ∧ w = w' := by
  go_enter Try.func75, Try.ntmps75
  go_wp2
  go_ret
  exact ⟨rfl, rfl⟩

set_option maxHeartbeats 400000 in
theorem compare_lt (x y : Nat) (h : (x : Int) < y) (w : World) : Calls Try.prog 64 #[.int .u64 x, .int .u64 y] w fun e w' => e = .returned (.int .i64 (-1)) ∧ w = w' := by
  go_enter Try.func64, Try.ntmps64
  go_wp2_with (go_at_call 75; refine (nan_any _ _).mono ?_; rintro e w' ⟨rfl, rfl⟩)
  go_ret
  exact ⟨rfl, rfl⟩
set_option maxHeartbeats 400000 in
theorem compare_gt (x y : Nat) (h : (y : Int) < x) (w : World) : Calls Try.prog 64 #[.int .u64 x, .int .u64 y] w fun e w' => e = .returned (.int .i64 1) ∧ w = w' := by
  have h' : ¬ (x : Int) < y := by omega
  go_enter Try.func64, Try.ntmps64
  go_wp2_with (go_at_call 75; refine (nan_any _ _).mono ?_; rintro e w' ⟨rfl, rfl⟩)
  go_ret
  exact ⟨rfl, rfl⟩

set_option maxRecDepth 100000 in
set_option maxHeartbeats 1000000 in
theorem cmp_3 (a0 a1 a2 a3 b0 b1 b2 b3 : Nat) (r : Int) (hn : ((a3 : Int) != b3) = true) (w : World)
    (hc : ∀ w, Calls Try.prog 64 #[.int .u64 a3, .int .u64 b3] w fun e w' => e = .returned (.int .i64 r) ∧ w = w') :
    Calls Try.prog 36 #[.agg #[.int .u64 a0, .int .u64 a1, .int .u64 a2, .int .u64 a3], .agg #[.int .u64 b0, .int .u64 b1, .int .u64 b2, .int .u64 b3]] w fun e w' => e = .returned (.int .i64 r) ∧ Below w.heap.size w w' := by
  go_enter Try.func36, Try.ntmps36
  go_wp2
  refine wp_loop_rounds 5 ?_
  rw [rounds_succ]; go_wp2; go_region; go_wp2
  go_region_with (go_at_call 64; refine (hc _).mono ?_; rintro e w' ⟨rfl, rfl⟩)
  all_goals (go_wp2; go_ret; exact ⟨rfl, by go_grown⟩)

set_option maxRecDepth 100000 in
set_option maxHeartbeats 1000000 in
theorem cmp_2 (a0 a1 a2 a3 b0 b1 b2 : Nat) (r : Int) (hn : ((a2 : Int) != b2) = true) (w : World)
    (hc : ∀ w, Calls Try.prog 64 #[.int .u64 a2, .int .u64 b2] w fun e w' => e = .returned (.int .i64 r) ∧ w = w') :
    Calls Try.prog 36 #[.agg #[.int .u64 a0, .int .u64 a1, .int .u64 a2, .int .u64 a3], .agg #[.int .u64 b0, .int .u64 b1, .int .u64 b2, .int .u64 a3]] w fun e w' => e = .returned (.int .i64 r) ∧ Below w.heap.size w w' := by
  go_enter Try.func36, Try.ntmps36
  go_wp2
  refine wp_loop_rounds 5 ?_
  rw [rounds_succ]; go_wp2; go_region; go_wp2
  rw [rounds_succ]; go_wp2; go_region; go_wp2
  go_region_with (go_at_call 64; refine (hc _).mono ?_; rintro e w' ⟨rfl, rfl⟩)
  all_goals (go_wp2; go_ret; exact ⟨rfl, by go_grown⟩)

set_option maxRecDepth 100000 in
set_option maxHeartbeats 1000000 in
theorem cmp_1 (a0 a1 a2 a3 b0 b1 : Nat) (r : Int) (hn : ((a1 : Int) != b1) = true) (w : World)
    (hc : ∀ w, Calls Try.prog 64 #[.int .u64 a1, .int .u64 b1] w fun e w' => e = .returned (.int .i64 r) ∧ w = w') :
    Calls Try.prog 36 #[.agg #[.int .u64 a0, .int .u64 a1, .int .u64 a2, .int .u64 a3], .agg #[.int .u64 b0, .int .u64 b1, .int .u64 a2, .int .u64 a3]] w fun e w' => e = .returned (.int .i64 r) ∧ Below w.heap.size w w' := by
  go_enter Try.func36, Try.ntmps36
  go_wp2
  refine wp_loop_rounds 5 ?_
  rw [rounds_succ]; go_wp2; go_region; go_wp2
  rw [rounds_succ]; go_wp2; go_region; go_wp2
  rw [rounds_succ]; go_wp2; go_region; go_wp2
  go_region_with (go_at_call 64; refine (hc _).mono ?_; rintro e w' ⟨rfl, rfl⟩)
  all_goals (go_wp2; go_ret; exact ⟨rfl, by go_grown⟩)

set_option maxRecDepth 100000 in
set_option maxHeartbeats 1000000 in
theorem cmp_0 (a0 a1 a2 a3 b0 : Nat) (r : Int) (hn : ((a0 : Int) != b0) = true) (w : World)
    (hc : ∀ w, Calls Try.prog 64 #[.int .u64 a0, .int .u64 b0] w fun e w' => e = .returned (.int .i64 r) ∧ w = w') :
    Calls Try.prog 36 #[.agg #[.int .u64 a0, .int .u64 a1, .int .u64 a2, .int .u64 a3], .agg #[.int .u64 b0, .int .u64 a1, .int .u64 a2, .int .u64 a3]] w fun e w' => e = .returned (.int .i64 r) ∧ Below w.heap.size w w' := by
  go_enter Try.func36, Try.ntmps36
  go_wp2
  refine wp_loop_rounds 5 ?_
  rw [rounds_succ]; go_wp2; go_region; go_wp2
  rw [rounds_succ]; go_wp2; go_region; go_wp2
  rw [rounds_succ]; go_wp2; go_region; go_wp2
  rw [rounds_succ]; go_wp2; go_region; go_wp2
  go_region_with (go_at_call 64; refine (hc _).mono ?_; rintro e w' ⟨rfl, rfl⟩)
  all_goals (go_wp2; go_ret; exact ⟨rfl, by go_grown⟩)

set_option maxRecDepth 100000 in
set_option maxHeartbeats 1000000 in
theorem cmp_e (a0 a1 a2 a3 : Nat) (w : World) :
    Calls Try.prog 36 #[.agg #[.int .u64 a0, .int .u64 a1, .int .u64 a2, .int .u64 a3], .agg #[.int .u64 a0, .int .u64 a1, .int .u64 a2, .int .u64 a3]] w fun e w' => e = .returned (.int .i64 0) ∧ Below w.heap.size w w' := by
  go_enter Try.func36, Try.ntmps36
  go_wp2
  refine wp_loop_rounds 5 ?_
  iterate 4 (rw [rounds_succ]; go_wp2; go_region; go_wp2)
  rw [rounds_succ]; go_wp2
  go_ret
  exact ⟨rfl, by go_grown⟩

theorem compare_any (x y : Nat) (h : x ≠ y) (w : World) : Calls Try.prog 64 #[.int .u64 x, .int .u64 y] w fun e w' => e = .returned (.int .i64 (if x < y then -1 else 1)) ∧ w = w' := by
  by_cases hlt : x < y
  · rw [if_pos hlt]; exact compare_lt x y (by omega) w
  · rw [if_neg hlt]; exact compare_gt x y (by omega) w

/-- The order of two numbers. -/
def ord (x y : Nat) : Int := if x < y then -1 else if y < x then 1 else 0

theorem neB {x y : Nat} (h : x ≠ y) : ((x : Int) != (y : Int)) = true := by rw [bne_iff_ne]; omega

-- WHAT Cmp COMES TO.
theorem cmp_any (x y : Nat) (w : World) :
    Calls Try.prog 36 #[wv x, wv y] w fun e w' => e = .returned (.int .i64 (ord (x % 115792089237316195423570985008687907853269984665640564039457584007913129639936) (y % 115792089237316195423570985008687907853269984665640564039457584007913129639936))) ∧ Below w.heap.size w w' := by
  obtain ⟨a0, a1, a2, a3, u0, u1, u2, u3, ea, na⟩ := wv_parts x
  obtain ⟨b0, b1, b2, b3, v0, v1, v2, v3, eb, nb⟩ := wv_parts y
  rw [ea, eb, ← na, ← nb]
  have key : ∀ p q : Nat, p ≠ q → (p < q ↔ n4 a0 a1 a2 a3 < n4 b0 b1 b2 b3) → n4 a0 a1 a2 a3 ≠ n4 b0 b1 b2 b3 → (if p < q then (-1 : Int) else 1) = ord (n4 a0 a1 a2 a3) (n4 b0 b1 b2 b3) := by
    intro p q hpq hi hn
    unfold ord
    by_cases h : p < q
    · rw [if_pos h, if_pos (hi.1 h)]
    · rw [if_neg h, if_neg (fun h' => h (hi.2 h')), if_pos (by have : ¬ n4 a0 a1 a2 a3 < n4 b0 b1 b2 b3 := fun h' => h (hi.2 h'); omega)]
  by_cases h3 : a3 = b3
  · by_cases h2 : a2 = b2
    · by_cases h1 : a1 = b1
      · by_cases h0 : a0 = b0
        · subst h0 h1 h2 h3
          have : ord (n4 a0 a1 a2 a3) (n4 a0 a1 a2 a3) = 0 := by unfold ord; simp
          rw [this]
          exact cmp_e a0 a1 a2 a3 w
        · subst h1 h2 h3
          rw [← key a0 b0 h0 (by unfold n4; omega) (by unfold n4; omega)]
          exact cmp_0 _ _ _ _ _ _ (neB h0) w (compare_any a0 b0 h0)
      · subst h2 h3
        rw [← key a1 b1 h1 (by unfold n4; omega) (by unfold n4; omega)]
        exact cmp_1 _ _ _ _ _ _ _ (neB h1) w (compare_any a1 b1 h1)
    · subst h3
      rw [← key a2 b2 h2 (by unfold n4; omega) (by unfold n4; omega)]
      exact cmp_2 _ _ _ _ _ _ _ _ (neB h2) w (compare_any a2 b2 h2)
  · rw [← key a3 b3 h3 (by unfold n4; omega) (by unfold n4; omega)]
    exact cmp_3 _ _ _ _ _ _ _ _ _ (neB h3) w (compare_any a3 b3 h3)
end Go.Proofs.Ytfgefifplmhopaa
namespace Go.Proofs.Ytfgefifplmhopaa
open Go.RowKit

theorem pw_ar (x : Nat) : pw x = ar .u64 4 fun j => ((pN x j : Nat) : Int) := by
  have e : ar .u64 4 (fun j => ((pN x j : Nat) : Int)) = #[.int .u64 ((pN x 0 : Nat) : Int), .int .u64 ((pN x 1 : Nat) : Int), .int .u64 ((pN x 2 : Nat) : Int), .int .u64 ((pN x 3 : Nat) : Int)] := by kernel_rfl
  rw [e]
  unfold pw
  have e0 : pN x 0 = x % 18446744073709551616 := by unfold pN; simp
  have e1 : pN x 1 = x / 18446744073709551616 % 18446744073709551616 := by unfold pN; simp; omega
  have e2 : pN x 2 = x / 340282366920938463463374607431768211456 % 18446744073709551616 := by unfold pN; simp; omega
  have e3 : pN x 3 = x / 6277101735386680763835789423207666416102355444464034512896 % 18446744073709551616 := by unfold pN; simp; omega
  rw [e0, e1, e2, e3]
theorem val_pN (x : Nat) : val (pN x) 4 = x % 115792089237316195423570985008687907853269984665640564039457584007913129639936 := by
  have e0 : pN x 0 = x % 18446744073709551616 := by unfold pN; simp
  have e1 : pN x 1 = x / 18446744073709551616 % 18446744073709551616 := by unfold pN; simp; omega
  have e2 : pN x 2 = x / 340282366920938463463374607431768211456 % 18446744073709551616 := by unfold pN; simp; omega
  have e3 : pN x 3 = x / 6277101735386680763835789423207666416102355444464034512896 % 18446744073709551616 := by unfold pN; simp; omega
  simp only [val, e0, e1, e2, e3]
  omega
/-- 2^512 modulo m. -/
def sqr (m : Nat) : Nat := 115792089237316195423570985008687907853269984665640564039457584007913129639936 * 115792089237316195423570985008687907853269984665640564039457584007913129639936 % m
/-- The struct's parts. -/
def frw (m j : Nat) : Nat := if j < 4 then pN m j else if j = 4 then nin m else pN (sqr m) (j - 5)
/-- A field of the modulus m lies in the block F. -/
structure FldAt (w : World) (F m : Nat) : Prop where
  row : w.heap[F]? = some (.cells (ar .u64 9 fun j => ((frw m j : Nat) : Int)) 49 (0, 0))
  odd : m % 2 = 1
  big : 1 < m
  lt : m < 115792089237316195423570985008687907853269984665640564039457584007913129639936
theorem FldAt.below {w w' : World} {F m : Nat} (h : FldAt w F m) (hb : Below w.heap.size w w') : FldAt w' F m :=
  ⟨(hb.block _ (Array.getElem?_eq_some_iff.1 h.row).1).trans h.row, h.odd, h.big, h.lt⟩
theorem FldAt.less {w : World} {F m : Nat} (h : FldAt w F m) : F < w.heap.size := (Array.getElem?_eq_some_iff.1 h.row).1
theorem FldAt.cell {w : World} {F m : Nat} (h : FldAt w F m) (j : Nat) (hj : j < 9) : w.cell? ⟨F, j, none⟩ = some (.int .u64 (frw m j : Nat)) := (cell_of_row _ _ j _ _ _ h.row).trans (ar_at _ _ _ _ hj)
theorem infoW4 : (Try.prog.info? 24).map (·.size) = some 4 := by kernel_rfl
theorem ld_m {w : World} {F m : Nat} (h : FldAt w F m) : (Instr.loadAt 24 (.pointer (some ⟨F, 0, none⟩))).run Try.prog w = .ok (.agg (pw m)) w := by
  rw [pw_ar]
  simp only [Instr.loadAt, Instr.sureAddr, Sem.run_bind, Sem.run_pure, Result.andThen_ok, run_loadVar_part w F 0 4 24 .u64 (fun j => ((pN m j : Nat) : Int)) _ (fun j hj => by
    rw [Nat.zero_add, h.cell j (by omega)]
    unfold frw
    rw [if_pos hj]) Try.underlying24 rfl infoW4]
theorem ld_pw {g x : Nat} {w : World} (hg : w.heap[g]? = some (.cells (pw x) 24 (0, 0))) : (Instr.loadAt 24 (.pointer (some ⟨g, 0, none⟩))).run Try.prog w = .ok (.agg (pw x)) w := load_pw hg
theorem ld_sq {w : World} {F m : Nat} (h : FldAt w F m) : (Instr.loadAt 24 (.pointer (some ⟨F, 5, none⟩))).run Try.prog w = .ok (.agg (pw (sqr m))) w := by
  rw [pw_ar]
  simp only [Instr.loadAt, Instr.sureAddr, Sem.run_bind, Sem.run_pure, Result.andThen_ok, run_loadVar_part w F 5 4 24 .u64 (fun j => ((pN (sqr m) j : Nat) : Int)) _ (fun j hj => by
    rw [h.cell (5 + j) (by omega)]
    unfold frw
    rw [if_neg (by omega), if_neg (by omega), show 5 + j - 5 = j by omega]) Try.underlying24 rfl infoW4]
theorem ld_inv {w : World} {F m : Nat} (h : FldAt w F m) : (Instr.loadAt 22 (.pointer (some ⟨F, 4, none⟩))).run Try.prog w = .ok (.int .u64 (nin m : Nat)) w :=
  load_u64 _ _ _ _ (h.cell 4 (by omega))
theorem fld_at (F : Nat) (w : World) : (Instr.fieldAt 49 (.pointer (some ⟨F, 0, none⟩)) 0).run Try.prog w = .ok (.pointer (some ⟨F, 0, none⟩)) w := by kernel_rfl
theorem fld_inv (F : Nat) (w : World) : (Instr.fieldAt 49 (.pointer (some ⟨F, 0, none⟩)) 1).run Try.prog w = .ok (.pointer (some ⟨F, 4, none⟩)) w := by kernel_rfl
theorem fld_sq (F : Nat) (w : World) : (Instr.fieldAt 49 (.pointer (some ⟨F, 0, none⟩)) 2).run Try.prog w = .ok (.pointer (some ⟨F, 5, none⟩)) w := by kernel_rfl
end Go.Proofs.Ytfgefifplmhopaa
namespace Go.Proofs.Ytfgefifplmhopaa
open Go.RowKit

/-- The worlds of a method with one word and a word's room for the answer. -/
structure C1 (w : World) (F m x : Nat) (wx : World) : Prop where
  old : Below w.heap.size w wx
  fld : FldAt wx F m
  r0 : wx.heap[w.heap.size]? = some (.cells (pw x) 24 (0, 0))
  r1 : wx.heap[w.heap.size + 1]? = some (.cells #[.int .u64 0, .int .u64 0, .int .u64 0, .int .u64 0] 24 (0, 0))
theorem C1.below {w wx w' : World} {F m x : Nat} (c : C1 w F m x wx) (hb : Below wx.heap.size wx w') : C1 w F m x w' :=
  ⟨c.old.trans (hb.mono c.old.size), c.fld.below hb, (hb.block _ (Array.getElem?_eq_some_iff.1 c.r0).1).trans c.r0, (hb.block _ (Array.getElem?_eq_some_iff.1 c.r1).1).trans c.r1⟩
theorem C1.start {w : World} {F m x : Nat} (h : FldAt w F m) : C1 w F m x ((w.alloc (.cells (pw x) 24)).alloc (.cells #[.int .u64 0, .int .u64 0, .int .u64 0, .int .u64 0] 24)) :=
  ⟨by go_grown, (h.below ((Below.refl _ _).alloc (Nat.le_refl _) _)).below ((Below.refl _ _).alloc (Nat.le_refl _) _), heap_alloc2_old _ _ _, heap_alloc2_new _ _ _⟩
theorem C1.drew {w wx : World} {F m x : Nat} (c : C1 w F m x wx) : C1 w F m x wx.drew := c.below (Below.drew (Below.refl _ _))
/-- The answer is laid. -/
theorem C1.done {w wx : World} {F m x y : Nat} (c : C1 w F m x wx) : Below w.heap.size w (wx.setRow (w.heap.size + 1) (pw y)) := below_setRow c.old (by omega) _
theorem geq_ord (a b : Nat) (w : World) : (binOp BinOp.geq 3 (.int .i64 (ord a b)) (.int .i64 0)).run Try.prog w = .ok (.bool (decide (b ≤ a))) w := by
  unfold ord
  by_cases h1 : a < b
  · rw [if_pos h1, decide_eq_false (by omega)]; kernel_rfl
  · rw [if_neg h1, decide_eq_true (show b ≤ a by omega)]
    by_cases h2 : b < a
    · rw [if_pos h2]; kernel_rfl
    · rw [if_neg h2]; kernel_rfl
theorem lss_ord (a b : Nat) (w : World) : (binOp BinOp.lss 3 (.int .i64 (ord a b)) (.int .i64 0)).run Try.prog w = .ok (.bool (decide (a < b))) w := by
  unfold ord
  by_cases h1 : a < b
  · rw [if_pos h1, decide_eq_true h1]; kernel_rfl
  · rw [if_neg h1, decide_eq_false h1]
    by_cases h2 : b < a
    · rw [if_pos h2]; kernel_rfl
    · rw [if_neg h2]; kernel_rfl
theorem mod_self_lt {m : Nat} (h : m < 115792089237316195423570985008687907853269984665640564039457584007913129639936) : m % 115792089237316195423570985008687907853269984665640564039457584007913129639936 = m := Nat.mod_eq_of_lt h
/-- Once less, if it goes beyond, or is not below. -/
def lessV (m x : Nat) (be : Bool) : Nat := if be = true ∨ m ≤ x % 115792089237316195423570985008687907853269984665640564039457584007913129639936 then x + (115792089237316195423570985008687907853269984665640564039457584007913129639936 - m) else x
set_option maxRecDepth 100000 in
set_option maxHeartbeats 2000000 in
-- WHAT lessOnce COMES TO.
theorem lessOnce_any (F m x : Nat) (be : Bool) (w : World) (hF : FldAt w F m) : Calls Try.prog 39 #[.pointer (some ⟨F, 0, none⟩), .agg (pw x), .bool be] w fun e w' => e = .returned (.agg (pw (lessV m x be))) ∧ Below w.heap.size w w' := by
  have H0 := Lib.hid (C1.start (x := x) hF)
  have HS := Lib.hid (show ∀ wx, C1 w F m x wx → Calls Try.prog 48 #[.agg (pw x), .agg (pw m)] wx (fun e w' => e = .returned (.agg (pw (x + (115792089237316195423570985008687907853269984665640564039457584007913129639936 - m)))) ∧ C1 w F m x w') from fun wx c => (sub_any x m wx).mono fun e w' hh => ⟨by rw [hh.1, mod_self_lt hF.lt]; rfl, c.below hh.2⟩)
  have HCM := Lib.hid (show ∀ wx, C1 w F m x wx → Calls Try.prog 36 #[.agg (pw x), .agg (pw m)] wx (fun e w' => e = .returned (.int .i64 (ord (x % 115792089237316195423570985008687907853269984665640564039457584007913129639936) m)) ∧ C1 w F m x w') from fun wx c => (cmp_any x m wx).mono fun e w' hh => ⟨by rw [hh.1, mod_self_lt hF.lt], c.below hh.2⟩)
  clear hF
  unfold lessV
  obtain ⟨X, hX⟩ : ∃ X, x % 115792089237316195423570985008687907853269984665640564039457584007913129639936 = X := ⟨_, rfl⟩
  rw [hX] at HCM ⊢
  clear hX
  cases be with
  | true =>
    rw [if_pos (.inl rfl)]
    obtain ⟨y, hy⟩ : ∃ y, x + (115792089237316195423570985008687907853269984665640564039457584007913129639936 - m) = y := ⟨_, rfl⟩
    rw [hy] at HS ⊢
    clear hy
    go_enter Try.func39, Try.ntmps39
    go_wp2_with fail
    refine wp_region_quiet (C := C1 w F m x) (by kernel_rfl) (by kernel_rfl) (H0.out.drew) ?_
    simp only
    with_reducible refine q_val (.bool true) (by kernel_rfl) (fun _ _ => by kernel_rfl) ?_
    with_reducible refine q_val (.bool true) (by kernel_rfl) (fun _ _ => by kernel_rfl) ?_
    with_reducible refine q_skip (by kernel_rfl) ?_
    with_reducible refine q_skip (by kernel_rfl) ?_
    with_reducible refine q_skip (by kernel_rfl) ?_
    with_reducible refine q_skip (by kernel_rfl) ?_
    with_reducible refine q_skip (by kernel_rfl) ?_
    with_reducible refine q_skip (by kernel_rfl) ?_
    with_reducible refine q_skip (by kernel_rfl) ?_
    with_reducible refine q_val (.bool true) (by kernel_rfl) (fun _ _ => by kernel_rfl) ?_
    with_reducible refine wpQuiet_nil ?_
    intro wx hC
    have HC := Lib.hid hC
    clear hC 
    simp only [Act.put, List.setIfInBounds_toArray, List.set_cons_succ, List.set_cons_zero]
    go_wp2_with fail
    refine region_quiet_tail 6 (C1 w F m x) (by kernel_rfl) (by kernel_rfl) (HC.out.drew) ?_
    simp only [List.take_succ_cons, List.take_zero, List.drop_succ_cons, List.drop_zero]
    with_reducible refine q_load 24 (.tmp 4) (.pointer (some ⟨w.heap.size, 0, none⟩)) (.agg (pw x)) rfl (by kernel_rfl) (by kernel_rfl) (fun _ c => ld_pw c.r0) ?_
    with_reducible refine q_val (.pointer (some ⟨F, 0, none⟩)) (by kernel_rfl) (fun _ _ => by kernel_rfl) ?_
    with_reducible refine q_val (.pointer (some ⟨F, 0, none⟩)) (by kernel_rfl) (fun _ _ => run_nil (.tmp 18) _ rfl (by kernel_rfl)) ?_
    with_reducible refine q_sem2 (Instr.fieldAt 49 (.pointer (some ⟨F, 0, none⟩)) 0) (.pointer (some ⟨F, 0, none⟩)) (by kernel_rfl) (by kernel_rfl) (fun w' _ => fld_at F w') ?_
    with_reducible refine q_load 24 (.tmp 20) (.pointer (some ⟨F, 0, none⟩)) (.agg (pw m)) rfl (by kernel_rfl) (by kernel_rfl) (fun _ c => ld_m c.fld) ?_
    with_reducible refine q_call 48 #[.agg (pw x), .agg (pw m)] (.agg (pw y)) (by kernel_rfl) (fun _ => by kernel_rfl) (HS.out) ?_
    with_reducible refine wpQuiet_nil ?_
    intro wx hC
    have HC2 := Lib.hid hC
    clear hC 
    simp only [Act.put, List.setIfInBounds_toArray, List.set_cons_succ, List.set_cons_zero]
    go_wp2_with (refine wpList_store_row rfl 24 _ _ rfl (w.heap.size + 1) (pw y) rfl rfl 24 #[.int .u64 0, .int .u64 0, .int .u64 0, .int .u64 0] (by exact HC2.out.r1) (by rw [pw_size]; exact infoW4) (by rw [pw_size]; rfl) (pw_one _) ?_)
    (try simp only [Act.put])
    exact bodyPost_ret (v := .agg (pw y)) (results_cell_row (p := 6) rfl _ _ (w.heap.size + 1) 24 (pw y) (0, 0) _ rfl (setRow_heap _ _ _ _ _ _ HC2.out.r1) Try.underlying24 rfl (by rw [pw_size]; exact infoW4)) rfl ⟨rfl, HC2.out.done⟩
  | false =>
    by_cases hle : m ≤ X
    · rw [if_pos (.inr hle)]
      obtain ⟨y, hy⟩ : ∃ y, x + (115792089237316195423570985008687907853269984665640564039457584007913129639936 - m) = y := ⟨_, rfl⟩
      rw [hy] at HS ⊢
      clear hy
      go_enter Try.func39, Try.ntmps39
      go_wp2_with fail
      refine wp_region_quiet (C := C1 w F m x) (by kernel_rfl) (by kernel_rfl) (H0.out.drew) ?_
      simp only
      with_reducible refine q_val (.bool false) (by kernel_rfl) (fun _ _ => by kernel_rfl) ?_
      with_reducible refine q_val (.bool false) (by kernel_rfl) (fun _ _ => by kernel_rfl) ?_
      with_reducible refine q_load 24 (.tmp 4) (.pointer (some ⟨w.heap.size, 0, none⟩)) (.agg (pw x)) rfl (by kernel_rfl) (by kernel_rfl) (fun _ c => ld_pw c.r0) ?_
      with_reducible refine q_val (.pointer (some ⟨F, 0, none⟩)) (by kernel_rfl) (fun _ _ => by kernel_rfl) ?_
      with_reducible refine q_val (.pointer (some ⟨F, 0, none⟩)) (by kernel_rfl) (fun _ _ => run_nil (.tmp 10) _ rfl (by kernel_rfl)) ?_
      with_reducible refine q_sem2 (Instr.fieldAt 49 (.pointer (some ⟨F, 0, none⟩)) 0) (.pointer (some ⟨F, 0, none⟩)) (by kernel_rfl) (by kernel_rfl) (fun w' _ => fld_at F w') ?_
      with_reducible refine q_load 24 (.tmp 12) (.pointer (some ⟨F, 0, none⟩)) (.agg (pw m)) rfl (by kernel_rfl) (by kernel_rfl) (fun _ c => ld_m c.fld) ?_
      with_reducible refine q_call 36 #[.agg (pw x), .agg (pw m)] (.int .i64 (ord X m)) (by kernel_rfl) (fun _ => by kernel_rfl) (HCM.out) ?_
      with_reducible refine q_bin .geq 3 _ _ 3 (.int .i64 (ord X m)) (.int .i64 0) (.bool true) rfl (by kernel_rfl) (by kernel_rfl) (by kernel_rfl) (fun _ => by kernel_rfl) (fun w' => (geq_ord X m w').trans (by rw [decide_eq_true hle])) ?_
      with_reducible refine q_val (.bool true) (by kernel_rfl) (fun _ _ => by kernel_rfl) ?_
      with_reducible refine wpQuiet_nil ?_
      intro wx hC
      have HC := Lib.hid hC
      clear hC 
      simp only [Act.put, List.setIfInBounds_toArray, List.set_cons_succ, List.set_cons_zero]
      go_wp2_with fail
      refine region_quiet_tail 6 (C1 w F m x) (by kernel_rfl) (by kernel_rfl) (HC.out.drew) ?_
      simp only [List.take_succ_cons, List.take_zero, List.drop_succ_cons, List.drop_zero]
      with_reducible refine q_load 24 (.tmp 4) (.pointer (some ⟨w.heap.size, 0, none⟩)) (.agg (pw x)) rfl (by kernel_rfl) (by kernel_rfl) (fun _ c => ld_pw c.r0) ?_
      with_reducible refine q_val (.pointer (some ⟨F, 0, none⟩)) (by kernel_rfl) (fun _ _ => by kernel_rfl) ?_
      with_reducible refine q_val (.pointer (some ⟨F, 0, none⟩)) (by kernel_rfl) (fun _ _ => run_nil (.tmp 18) _ rfl (by kernel_rfl)) ?_
      with_reducible refine q_sem2 (Instr.fieldAt 49 (.pointer (some ⟨F, 0, none⟩)) 0) (.pointer (some ⟨F, 0, none⟩)) (by kernel_rfl) (by kernel_rfl) (fun w' _ => fld_at F w') ?_
      with_reducible refine q_load 24 (.tmp 20) (.pointer (some ⟨F, 0, none⟩)) (.agg (pw m)) rfl (by kernel_rfl) (by kernel_rfl) (fun _ c => ld_m c.fld) ?_
      with_reducible refine q_call 48 #[.agg (pw x), .agg (pw m)] (.agg (pw y)) (by kernel_rfl) (fun _ => by kernel_rfl) (HS.out) ?_
      with_reducible refine wpQuiet_nil ?_
      intro wx hC
      have HC2 := Lib.hid hC
      clear hC 
      simp only [Act.put, List.setIfInBounds_toArray, List.set_cons_succ, List.set_cons_zero]
      go_wp2_with (refine wpList_store_row rfl 24 _ _ rfl (w.heap.size + 1) (pw y) rfl rfl 24 #[.int .u64 0, .int .u64 0, .int .u64 0, .int .u64 0] (by exact HC2.out.r1) (by rw [pw_size]; exact infoW4) (by rw [pw_size]; rfl) (pw_one _) ?_)
      (try simp only [Act.put])
      exact bodyPost_ret (v := .agg (pw y)) (results_cell_row (p := 6) rfl _ _ (w.heap.size + 1) 24 (pw y) (0, 0) _ rfl (setRow_heap _ _ _ _ _ _ HC2.out.r1) Try.underlying24 rfl (by rw [pw_size]; exact infoW4)) rfl ⟨rfl, HC2.out.done⟩
    · rw [if_neg (by simp [hle])]
      go_enter Try.func39, Try.ntmps39
      go_wp2_with fail
      refine wp_region_quiet (C := C1 w F m x) (by kernel_rfl) (by kernel_rfl) (H0.out.drew) ?_
      simp only
      with_reducible refine q_val (.bool false) (by kernel_rfl) (fun _ _ => by kernel_rfl) ?_
      with_reducible refine q_val (.bool false) (by kernel_rfl) (fun _ _ => by kernel_rfl) ?_
      with_reducible refine q_load 24 (.tmp 4) (.pointer (some ⟨w.heap.size, 0, none⟩)) (.agg (pw x)) rfl (by kernel_rfl) (by kernel_rfl) (fun _ c => ld_pw c.r0) ?_
      with_reducible refine q_val (.pointer (some ⟨F, 0, none⟩)) (by kernel_rfl) (fun _ _ => by kernel_rfl) ?_
      with_reducible refine q_val (.pointer (some ⟨F, 0, none⟩)) (by kernel_rfl) (fun _ _ => run_nil (.tmp 10) _ rfl (by kernel_rfl)) ?_
      with_reducible refine q_sem2 (Instr.fieldAt 49 (.pointer (some ⟨F, 0, none⟩)) 0) (.pointer (some ⟨F, 0, none⟩)) (by kernel_rfl) (by kernel_rfl) (fun w' _ => fld_at F w') ?_
      with_reducible refine q_load 24 (.tmp 12) (.pointer (some ⟨F, 0, none⟩)) (.agg (pw m)) rfl (by kernel_rfl) (by kernel_rfl) (fun _ c => ld_m c.fld) ?_
      with_reducible refine q_call 36 #[.agg (pw x), .agg (pw m)] (.int .i64 (ord X m)) (by kernel_rfl) (fun _ => by kernel_rfl) (HCM.out) ?_
      with_reducible refine q_bin .geq 3 _ _ 3 (.int .i64 (ord X m)) (.int .i64 0) (.bool false) rfl (by kernel_rfl) (by kernel_rfl) (by kernel_rfl) (fun _ => by kernel_rfl) (fun w' => (geq_ord X m w').trans (by rw [decide_eq_false hle])) ?_
      with_reducible refine q_val (.bool false) (by kernel_rfl) (fun _ _ => by kernel_rfl) ?_
      with_reducible refine wpQuiet_nil ?_
      intro wx hC
      have HC := Lib.hid hC
      clear hC 
      simp only [Act.put, List.setIfInBounds_toArray, List.set_cons_succ, List.set_cons_zero]
      go_wp2_with (first | (refine wpList_load_row rfl 24 _ rfl w.heap.size rfl 24 (pw x) (0, 0) _ (by exact HC.out.r0) Try.underlying24 rfl (by rw [pw_size]; exact infoW4) ?_) | (refine wpList_store_row rfl 24 _ _ rfl (w.heap.size + 1) (pw x) rfl rfl 24 #[.int .u64 0, .int .u64 0, .int .u64 0, .int .u64 0] (by exact HC.out.r1) (by rw [pw_size]; exact infoW4) (by rw [pw_size]; rfl) (pw_one _) ?_))
      (try simp only [Act.put])
      exact bodyPost_ret (v := .agg (pw x)) (results_cell_row (p := 6) rfl _ _ (w.heap.size + 1) 24 (pw x) (0, 0) _ rfl (setRow_heap _ _ _ _ _ _ HC.out.r1) Try.underlying24 rfl (by rw [pw_size]; exact infoW4)) rfl ⟨rfl, HC.out.done⟩
end Go.Proofs.Ytfgefifplmhopaa
namespace Go.Proofs.Ytfgefifplmhopaa
open Go.RowKit

theorem vl_split (f : Nat → Nat) (k : Nat) : ∀ n, val f (k + n) = val f k + 18446744073709551616 ^ k * val (fun j => f (k + j)) n
  | 0 => by simp [val]
  | n + 1 => by
    show val f (k + n) + 18446744073709551616 ^ (k + n) * f (k + n) = _
    rw [vl_split f k n]
    simp only [val]
    rw [Nat.pow_add, Nat.mul_add, Nat.mul_assoc, Nat.add_assoc]
theorem val_setN (f : Nat → Nat) (p y : Nat) : ∀ L, p < L → val (updN f p y) L + 18446744073709551616 ^ p * f p = val f L + 18446744073709551616 ^ p * y
  | 0, h => by omega
  | L + 1, h => by
    simp only [val]
    by_cases e : p = L
    · subst e
      rw [val_congr (f := updN f p y) (g := f) (fun j hj => by unfold updN; rw [if_neg (by omega)]), show updN f p y p = y from if_pos rfl]
      omega
    · have := val_setN f p y L (by omega)
      rw [show updN f p y L = f L from if_neg (by omega)]
      omega
theorem val_four (f : Nat → Nat) : val f 4 = f 0 + 18446744073709551616 * (f 1 + 18446744073709551616 * (f 2 + 18446744073709551616 * f 3)) := by
  simp only [val]
  omega
/-- A row's sum over all eight parts. -/
theorem rowI_val {s a s' : Nat → Nat} {u x c : Nat} (H : RowI s a u x 4 c s') (hu : u ≤ 4) : val s' 8 + 18446744073709551616 ^ (u + 4) * c = val s 8 + 18446744073709551616 ^ u * (x * val a 4) := by
  obtain ⟨n, hn⟩ : ∃ n, 4 - u = n := ⟨_, rfl⟩
  have e8 : 8 = u + (4 + n) := by omega
  have h1 : ∀ f : Nat → Nat, val f 8 = val f u + 18446744073709551616 ^ u * (val (fun j => f (u + j)) 4 + 18446744073709551616 ^ 4 * val (fun j => f (u + (4 + j))) n) := fun f => by
    rw [e8, vl_split f u, vl_split (fun j => f (u + j)) 4 n]
  have h2 : val s' u = val s u := val_congr fun j hj => H.out j (.inl hj)
  have h3 : val (fun j => s' (u + (4 + j))) n = val (fun j => s (u + (4 + j))) n := val_congr fun j hj => H.out _ (.inr (by omega))
  have h4 := H.sum
  rw [h1 s', h1 s, h2, h3, Nat.pow_add]
  obtain ⟨P, hP⟩ : ∃ P, 18446744073709551616 ^ u = P := ⟨_, rfl⟩
  obtain ⟨Q, hQ⟩ : ∃ Q : Nat, 18446744073709551616 ^ 4 = Q := ⟨_, rfl⟩
  rw [hP, hQ]
  rw [hQ] at h4
  have h5 : P * (val (fun j => s' (u + j)) 4 + Q * c) = P * (val (fun j => s (u + j)) 4 + x * val a 4) := by rw [h4]
  rw [Nat.mul_add, Nat.mul_add] at h5
  rw [Nat.mul_add, Nat.mul_add, Nat.mul_assoc]
  omega
/-- Behind so many rows of the product. -/
structure T1 (x y k : Nat) (s : Nat → Nat) : Prop where
  lt : ∀ t, s t < 18446744073709551616
  top : ∀ t, 4 + k ≤ t → s t = 0
  sum : val s 8 = val (pN x) k * val (pN y) 4
theorem T1.next {x y k c : Nat} {s s' : Nat → Nat} (h : T1 x y k s) (hk : k < 4) (H : RowI s (pN y) k (pN x k) 4 c s') : T1 x y (k + 1) (updN s' (k + 4) c) := by
  refine ⟨fun t => ?_, fun t ht => ?_, ?_⟩
  · unfold updN; split
    · exact H.clt
    · exact H.lt t
  · unfold updN
    rw [if_neg (by omega), H.out t (.inr (by omega)), h.top t (by omega)]
  · have h1 := val_setN s' (k + 4) c 8 (by omega)
    have h2 := rowI_val H (by omega)
    have h3 : s' (k + 4) = 0 := by rw [H.out _ (.inr (by omega)), h.top _ (by omega)]
    have h4 := h.sum
    rw [show val (pN x) (k + 1) = val (pN x) k + 18446744073709551616 ^ k * pN x k from rfl, Nat.add_mul, ← h4, Nat.mul_assoc]
    rw [h3, Nat.mul_zero] at h1
    omega
/-- Behind so many steps that take the lowest part away. -/
structure T2 (m N k be : Nat) (s : Nat → Nat) : Prop where
  lt : ∀ t, s t < 18446744073709551616
  one : be ≤ 1
  low : ∀ t, t < k → s t = 0
  sum : ∃ Q, Q < 18446744073709551616 ^ k ∧ val s 8 + 18446744073709551616 ^ (k + 4) * be = N + Q * m
theorem T2.next {m N k be c d be' : Nat} {s s' : Nat → Nat} (h : T2 m N k be s) (ho : m % 2 = 1) (hm : m < 115792089237316195423570985008687907853269984665640564039457584007913129639936) (hk : k < 4) (H : RowI s (pN m) k (s k * nin m % 18446744073709551616) 4 c s') (hd : d < 18446744073709551616) (hb : be' ≤ 1) (he : d + 18446744073709551616 * be' = s' (k + 4) + c + be) : T2 m N (k + 1) be' (updN s' (k + 4) d) := by
  have hv : val (pN m) 4 = m := by rw [val_pN, Nat.mod_eq_of_lt hm]
  refine ⟨fun t => ?_, hb, fun t ht => ?_, ?_⟩
  · unfold updN; split
    · exact hd
    · exact H.lt t
  · unfold updN
    rw [if_neg (by omega)]
    by_cases e : t = k
    · subst e
      have h1 := H.sum
      rw [hv, val_four, val_four] at h1
      have h2 := nin_ok ho (s t)
      have h3 : (s t * nin m % 18446744073709551616 * (m % 18446744073709551616)) % 18446744073709551616 = (s t * nin m % 18446744073709551616 * m) % 18446744073709551616 := mul_mod_r _ _ _
      have h4 := H.lt t
      simp only [Nat.add_zero] at h1
      obtain ⟨q, hq⟩ : ∃ q, s t * nin m % 18446744073709551616 * m = q := ⟨_, rfl⟩
      obtain ⟨q2, hq2⟩ : ∃ q2, s t * nin m % 18446744073709551616 * (m % 18446744073709551616) = q2 := ⟨_, rfl⟩
      rw [hq] at h1 h3
      rw [hq2] at h2 h3
      have h5 : (18446744073709551616 ^ 4 : Nat) * c = 18446744073709551616 * (18446744073709551616 ^ 3 * c) := by rw [← Nat.mul_assoc, ← Nat.pow_succ']
      rw [h5] at h1
      generalize (18446744073709551616 ^ 3 : Nat) * c = z at h1
      omega
    · rw [H.out t (.inl (by omega)), h.low t (by omega)]
  · obtain ⟨Q, hQ, hs⟩ := h.sum
    have h1 := val_setN s' (k + 4) d 8 (by omega)
    have h2 := rowI_val H (by omega)
    rw [hv] at h2
    obtain ⟨q, hq⟩ : ∃ q, s k * nin m % 18446744073709551616 = q := ⟨_, rfl⟩
    have hql : q < 18446744073709551616 := by rw [← hq]; exact Nat.mod_lt _ (by omega)
    rw [hq] at h2
    refine ⟨Q + 18446744073709551616 ^ k * q, ?_, ?_⟩
    · rw [Nat.pow_succ]
      have : 18446744073709551616 ^ k * q ≤ 18446744073709551616 ^ k * (18446744073709551616 - 1) := Nat.mul_le_mul_left _ (by omega)
      have h3 : 18446744073709551616 ^ k * (18446744073709551616 - 1) + 18446744073709551616 ^ k = 18446744073709551616 ^ k * 18446744073709551616 := by rw [← Nat.mul_succ]
      omega
    · rw [show k + 1 + 4 = (k + 4) + 1 by omega, Nat.pow_succ, Nat.add_mul, Nat.mul_assoc]
      obtain ⟨P, hP⟩ : ∃ P, 18446744073709551616 ^ (k + 4) = P := ⟨_, rfl⟩
      rw [hP] at h1 h2 hs ⊢
      have h3 : P * (d + 18446744073709551616 * be') = P * (s' (k + 4) + c + be) := by rw [he]
      rw [Nat.mul_add, Nat.mul_add, Nat.mul_add] at h3
      rw [Nat.mul_assoc]
      omega
/-- What is left is the product by 2^256. -/
theorem T2.done {m x y be : Nat} {s : Nat → Nat} (h : T2 m (x * y) 4 be s) (ho : m % 2 = 1) (h1 : 1 < m) (hm : m < 115792089237316195423570985008687907853269984665640564039457584007913129639936) (hb : x * y < 115792089237316195423570985008687907853269984665640564039457584007913129639936 * m) : wv (lessV m (val (fun j => s (4 + j)) 4) (decide (be = 1))) = wv (mnt m x y) := by
  obtain ⟨Q, hQ, hs⟩ := h.sum
  have e8 : val s 8 = 115792089237316195423570985008687907853269984665640564039457584007913129639936 * val (fun j => s (4 + j)) 4 := by
    rw [show 8 = 4 + 4 from rfl, vl_split]
    have : val s 4 = 0 := by rw [val_four, h.low 0 (by omega), h.low 1 (by omega), h.low 2 (by omega), h.low 3 (by omega)]
    rw [this, Nat.zero_add]
  obtain ⟨u, hu⟩ : ∃ u, val (fun j => s (4 + j)) 4 = u := ⟨_, rfl⟩
  have hul : u < 115792089237316195423570985008687907853269984665640564039457584007913129639936 := by
    rw [← hu, val_four]
    have a0 := h.lt 4
    have a1 := h.lt 5
    have a2 := h.lt 6
    have a3 := h.lt 7
    show s 4 + 18446744073709551616 * (s 5 + 18446744073709551616 * (s 6 + 18446744073709551616 * s 7)) < _
    omega
  rw [hu] at e8 ⊢
  rw [e8, show (18446744073709551616 : Nat) ^ (4 + 4) = 115792089237316195423570985008687907853269984665640564039457584007913129639936 * 115792089237316195423570985008687907853269984665640564039457584007913129639936 by decide] at hs
  have hQ2 : Q < 115792089237316195423570985008687907853269984665640564039457584007913129639936 := hQ
  have hone := h.one
  obtain ⟨N, hN⟩ : ∃ N, x * y = N := ⟨_, rfl⟩
  -- T * R = N + Q * m, T = u + be * R
  obtain ⟨T, hT⟩ : ∃ T, u + 115792089237316195423570985008687907853269984665640564039457584007913129639936 * be = T := ⟨_, rfl⟩
  have hTR : T * 115792089237316195423570985008687907853269984665640564039457584007913129639936 = x * y + Q * m := by rw [← hs, ← hT, Nat.add_mul, Nat.mul_comm u, Nat.mul_assoc, Nat.mul_comm be, ← Nat.mul_assoc]
  have hT2 : T < m + m := by
    have h2 : Q * m ≤ 115792089237316195423570985008687907853269984665640564039457584007913129639936 * m := Nat.mul_le_mul_right m (by omega)
    have h3 : T * 115792089237316195423570985008687907853269984665640564039457584007913129639936 < (m + m) * 115792089237316195423570985008687907853269984665640564039457584007913129639936 := by rw [hTR, Nat.add_mul, Nat.mul_comm m]; omega
    exact Nat.lt_of_mul_lt_mul_right h3
  have key : ∀ r, r < m → (r = T ∨ r + m = T) → r = mnt m x y := fun r hr h2 => by
    refine mnt_uniq ho h1 hr ?_
    have h3 : T * 115792089237316195423570985008687907853269984665640564039457584007913129639936 % m = x * y % m := by rw [hTR, Nat.add_mul_mod_self_right]
    rcases h2 with rfl | h2
    · exact h3
    · rw [← h3, ← h2, Nat.add_mul, Nat.mul_comm m, Nat.add_mul_mod_self_right]
  unfold lessV
  by_cases hc : be = 1 ∨ m ≤ u
  · rw [if_pos (by rw [Nat.mod_eq_of_lt hul]; simpa using hc)]
    have h2 : T - m = mnt m x y := key _ (by omega) (.inr (by rcases hc with hc | hc <;> omega))
    rw [← h2]
    apply wv_congr
    rcases hc with hc | hc
    · subst hc
      congr 1
      omega
    · have hb0 : be = 0 ∨ be = 1 := by omega
      rcases hb0 with hb0 | hb0
      · subst hb0
        rw [show u + (115792089237316195423570985008687907853269984665640564039457584007913129639936 - m) = (T - m) + 115792089237316195423570985008687907853269984665640564039457584007913129639936 by omega, Nat.add_mod_right]
      · subst hb0
        congr 1
        omega
  · rw [if_neg (by rw [Nat.mod_eq_of_lt hul]; simpa using hc)]
    have hb0 : be = 0 := by omega
    subst hb0
    have h2 : T = mnt m x y := key _ (by omega) (.inl rfl)
    rw [← h2, ← hT, Nat.mul_zero, Nat.add_zero]
end Go.Proofs.Ytfgefifplmhopaa
namespace Go.Proofs.Ytfgefifplmhopaa
open Go.RowKit

theorem idx_pw (x k : Nat) (hk : k < 4) (w : World) : (Instr.index 24 (.agg (pw x)) (.int .i64 (k : Nat))).run Try.prog w = .ok (.int .u64 (pN x k : Nat)) w := by
  rw [pw_ar]
  exact index_ar w Try.underlying24 (by kernel_rfl) (by kernel_rfl) hk
theorem slice8 (S k : Nat) (h : k ≤ 4) (w : World) : (Instr.sliceAt 58 (.pointer (some ⟨S, 0, none⟩)) (some (.int .i64 (k : Nat))) none none).run Try.prog w = .ok (.slice (some ⟨S, k, none⟩) (8 - k) (8 - k)) w := by
  have hlen : Try.prog.arrayLen 58 = 8 := by kernel_rfl
  have hsz : (sizeOf (Try.prog.elem 58)).run Try.prog w = .ok 1 w := by kernel_rfl
  rw [run_sliceAt_array_l w 58 ⟨S, 0, none⟩ (by kernel_rfl) .i64 _ (by omega) (by rw [hlen]; omega), hsz, hlen]
  simp only [Result.andThen, slicedAt, Addr.add]
  rw [Int.toNat_natCast, if_neg (by omega)]
  simp
  omega
theorem arr8 (S k : Nat) (h : k ≤ 4) (w : World) : (Instr.arrayAt 24 (.slice (some ⟨S, k, none⟩) (8 - k) (8 - k))).run Try.prog w = .ok (.pointer (some ⟨S, k, none⟩)) w :=
  run_arrayAt _ 24 22 4 _ _ _ Try.underlying24 (by omega)
theorem at8f (V j : Nat) (hj : j < 8) (w : World) : (Instr.indexAt 58 (.pointer (some ⟨V, 0, none⟩)) (.int .i64 (j : Nat))).run Try.prog w = .ok (.pointer (some ⟨V, j, none⟩)) w := by
  have h0 : (0 : Int) ≤ j := by omega
  have h1 : (j : Int) < 8 := by omega
  go_simp
theorem mul_u (a b q : Nat) (h : a * b % 18446744073709551616 = q) (w : World) : (binOp BinOp.mul 22 (.int .u64 (a : Nat)) (.int .u64 (b : Nat))).run Try.prog w = .ok (.int .u64 (q : Nat)) w := by
  have e : (a : Int) * (b : Int) = ((a * b : Nat) : Int) := by simp
  have e2 : IntKind.u64.wrap ((a : Int) * (b : Int)) = (q : Int) := by rw [e, IntKind.wrap_u64]; omega
  clear h e
  go_simp
theorem heap4f (w : World) (A B C D : Obj) : ((((w.alloc A).alloc B).alloc C).alloc D).heap[w.heap.size]? = some A ∧ ((((w.alloc A).alloc B).alloc C).alloc D).heap[w.heap.size + 1]? = some B ∧ ((((w.alloc A).alloc B).alloc C).alloc D).heap[w.heap.size + 1 + 1]? = some C ∧ ((((w.alloc A).alloc B).alloc C).alloc D).heap[w.heap.size + 1 + 1 + 1]? = some D := by
  have h := heap3 w A B C
  have hs : (((w.alloc A).alloc B).alloc C).heap.size = w.heap.size + 1 + 1 + 1 := by simp
  refine ⟨(heap_alloc_old _ _ (by omega)).trans h.1, (heap_alloc_old _ _ (by omega)).trans h.2.1, (heap_alloc_old _ _ (by omega)).trans h.2.2, ?_⟩
  rw [← hs]
  exact heap_alloc_new _ _
/-- The worlds of times. -/
structure CT3 (w : World) (F m x y : Nat) (s : Nat → Nat) (wx : World) : Prop where
  old : Below w.heap.size w wx
  fld : FldAt wx F m
  r0 : wx.heap[w.heap.size]? = some (.cells (pw x) 24 (0, 0))
  r1 : wx.heap[w.heap.size + 1]? = some (.cells (pw y) 24 (0, 0))
  r2 : wx.heap[w.heap.size + 1 + 1]? = some (.cells #[.int .u64 0, .int .u64 0, .int .u64 0, .int .u64 0] 24 (0, 0))
  rS : wx.heap[w.heap.size + 1 + 1 + 1]? = some (.cells (ar .u64 8 fun j => ((s j : Nat) : Int)) 58 (0, 0))
  hF : F < w.heap.size
theorem CT3.high {w wx : World} {F m x y : Nat} {s : Nat → Nat} (c : CT3 w F m x y s wx) : w.heap.size + 1 + 1 + 1 + 1 ≤ wx.heap.size := (Array.getElem?_eq_some_iff.1 c.rS).1
theorem CT3.below {w wx w' : World} {F m x y : Nat} {s : Nat → Nat} (c : CT3 w F m x y s wx) (hb : Below wx.heap.size wx w') : CT3 w F m x y s w' := by
  have l := c.high
  exact ⟨c.old.trans (hb.mono (by omega)), c.fld.below hb, (hb.block _ (by omega)).trans c.r0, (hb.block _ (by omega)).trans c.r1, (hb.block _ (by omega)).trans c.r2, (hb.block _ (by omega)).trans c.rS, c.hF⟩
theorem CT3.drew {w wx : World} {F m x y : Nat} {s : Nat → Nat} (c : CT3 w F m x y s wx) : CT3 w F m x y s wx.drew := c.below (Below.drew (Below.refl _ _))
theorem CT3.after {w wx w' : World} {F m x y : Nat} {s s' : Nat → Nat} (c : CT3 w F m x y s wx) (hb : Bt (w.heap.size + 1 + 1 + 1) wx w') (hr : w'.heap[w.heap.size + 1 + 1 + 1]? = some (.cells (ar .u64 8 fun j => ((s' j : Nat) : Int)) 58 (0, 0))) : CT3 w F m x y s' w' := by
  have l := c.high
  have l2 := c.hF
  exact ⟨hb.below c.old (by omega) (by omega), ⟨(hb.block _ (by omega) (by omega)).trans c.fld.row, c.fld.odd, c.fld.big, c.fld.lt⟩, (hb.block _ (by omega) (by omega)).trans c.r0, (hb.block _ (by omega) (by omega)).trans c.r1, (hb.block _ (by omega) (by omega)).trans c.r2, hr, c.hF⟩
theorem CT3.set {w wx : World} {F m x y : Nat} {s : Nat → Nat} (c : CT3 w F m x y s wx) (p z : Nat) (hp : p < 8) : CT3 w F m x y (updN s p z) (wx.setCell ⟨w.heap.size + 1 + 1 + 1, p, none⟩ (.int .u64 (z : Nat))) :=
  c.after ((Bt.refl _ _).set _) ((heap_setCell_same _ _ _ _ _ _ c.rS).trans (by rw [ar_set _ _ _ _ _ hp, updI_N]))
theorem CT3.at_ {w wx : World} {F m x y : Nat} {s : Nat → Nat} (c : CT3 w F m x y s wx) (j : Nat) (hj : j < 8) : wx.cell? ⟨w.heap.size + 1 + 1 + 1, j, none⟩ = some (.int .u64 (s j : Nat)) := (cell_of_row _ _ j _ _ _ c.rS).trans (ar_at _ _ _ _ hj)
theorem CT3.at_y {w wx : World} {F m x y : Nat} {s : Nat → Nat} (c : CT3 w F m x y s wx) (j : Nat) (hj : j < 4) : wx.cell? ⟨w.heap.size + 1, 0 + j, none⟩ = some (.int .u64 (pN y j : Nat)) := by
  rw [Nat.zero_add, cell_of_row _ _ j _ _ _ c.r1, pw_ar]
  exact ar_at _ _ _ _ hj
theorem CT3.at_m {w wx : World} {F m x y : Nat} {s : Nat → Nat} (c : CT3 w F m x y s wx) (j : Nat) (hj : j < 4) : wx.cell? ⟨F, 0 + j, none⟩ = some (.int .u64 (pN m j : Nat)) := by
  rw [Nat.zero_add, c.fld.cell j (by omega)]
  unfold frw
  rw [if_pos hj]
theorem pN_lt (x j : Nat) : pN x j < 18446744073709551616 := pN_le x j
/-- Four parts read as a word. -/
theorem ld_top {w wx : World} {F m x y : Nat} {s : Nat → Nat} (c : CT3 w F m x y s wx) (hs : ∀ t, s t < 18446744073709551616) : (Instr.loadAt 24 (.pointer (some ⟨w.heap.size + 1 + 1 + 1, 4, none⟩))).run Try.prog wx = .ok (.agg (pw (val (fun j => s (4 + j)) 4))) wx := by
  rw [pw_ar]
  have e : ∀ j, j < 4 → pN (val (fun j => s (4 + j)) 4) j = s (4 + j) := fun j hj => by
    have a0 := hs 4
    have a1 := hs 5
    have a2 := hs 6
    have a3 := hs 7
    have h : j = 0 ∨ j = 1 ∨ j = 2 ∨ j = 3 := by omega
    rw [val_four]
    unfold pN
    show (s 4 + 18446744073709551616 * (s 5 + 18446744073709551616 * (s 6 + 18446744073709551616 * s 7))) % _ / _ % _ = _
    rcases h with rfl | rfl | rfl | rfl
    · simp; omega
    · simp; omega
    · simp; omega
    · simp; omega
  simp only [Instr.loadAt, Instr.sureAddr, Sem.run_bind, Sem.run_pure, Result.andThen_ok, run_loadVar_part wx (w.heap.size + 1 + 1 + 1) 4 4 24 .u64 (fun j => ((pN (val (fun j => s (4 + j)) 4) j : Nat) : Int)) _ (fun j hj => by
    show _ = some (Value.int .u64 ((pN (val (fun j => s (4 + j)) 4) j : Nat) : Int))
    rw [c.at_ (4 + j) (by omega), e j hj]) Try.underlying24 rfl infoW4]
set_option maxRecDepth 100000 in
set_option maxHeartbeats 4000000 in
-- WHAT times COMES TO.
theorem times_any (F m x y : Nat) (hx : x < 115792089237316195423570985008687907853269984665640564039457584007913129639936) (hy : y < 115792089237316195423570985008687907853269984665640564039457584007913129639936) (hxy : x * y < 115792089237316195423570985008687907853269984665640564039457584007913129639936 * m) (w : World) (hF : FldAt w F m) : Calls Try.prog 40 #[.pointer (some ⟨F, 0, none⟩), .agg (pw x), .agg (pw y)] w fun e w' => e = .returned (.agg (pw (mnt m x y))) ∧ Below w.heap.size w w' := by
  have H4 := Lib.hid (heap4f w (.cells (pw x) 24) (.cells (pw y) 24) (.cells #[.int .u64 0, .int .u64 0, .int .u64 0, .int .u64 0] 24) (.cells #[.int .u64 0, .int .u64 0, .int .u64 0, .int .u64 0, .int .u64 0, .int .u64 0, .int .u64 0, .int .u64 0] 58))
  have H0 := Lib.hid (show CT3 w F m x y (fun _ => 0) ((((w.alloc (.cells (pw x) 24)).alloc (.cells (pw y) 24)).alloc (.cells #[.int .u64 0, .int .u64 0, .int .u64 0, .int .u64 0] 24)).alloc (.cells #[.int .u64 0, .int .u64 0, .int .u64 0, .int .u64 0, .int .u64 0, .int .u64 0, .int .u64 0, .int .u64 0] 58)) from
    ⟨by go_grown, ⟨(show Below w.heap.size w ((((w.alloc (.cells (pw x) 24)).alloc (.cells (pw y) 24)).alloc (.cells #[.int .u64 0, .int .u64 0, .int .u64 0, .int .u64 0] 24)).alloc (.cells #[.int .u64 0, .int .u64 0, .int .u64 0, .int .u64 0, .int .u64 0, .int .u64 0, .int .u64 0, .int .u64 0] 58)) from by go_grown).block _ hF.less |>.trans hF.row, hF.odd, hF.big, hF.lt⟩, H4.out.1, H4.out.2.1, H4.out.2.2.1, H4.out.2.2.2, hF.less⟩)
  have HI := Lib.hid (show T1 x y 0 (fun _ => 0) from ⟨fun _ => by show 0 < 18446744073709551616; omega, fun _ _ => rfl, by simp only [val]; simp⟩)
  have HB := Lib.hid (And.intro hx (And.intro hy hxy))
  clear H4 hF hx hy hxy
  go_enter Try.func40, Try.ntmps40
  go_wp2_with (refine wpList_ld rfl 24 _ rfl (.pointer (some ⟨w.heap.size, 0, none⟩)) (.agg (pw x)) rfl (ld_pw H0.out.r0) ?_)
  go_loopw [14] (fun iv wr => ∃ (k : Nat) (s : Nat → Nat), k ≤ 4 ∧ iv = .int .i64 k ∧ Hid (T1 x y k s ∧ CT3 w F m x y s wr)) (fun iv _ => 4 - (intOf iv).toNat)
  case atStart => exact ⟨0, fun _ => 0, by omega, rfl, Lib.hid ⟨HI.out, H0.out⟩⟩
  case round =>
    obtain ⟨k, s, hk, rfl, H⟩ := hrel
    clear HI H0
    have hk0 : (0 : Int) ≤ k := by omega
    by_cases hlt : k < 4
    · have hlt' : (k : Int) < 4 := by omega
      have hix := idx_pw x k hlt
      obtain ⟨z, hz⟩ : ∃ z, pN x k = z := ⟨_, rfl⟩
      rw [hz] at hix
      have hsl := slice8 (w.heap.size + 1 + 1 + 1) k (by omega)
      have har := arr8 (w.heap.size + 1 + 1 + 1) k (by omega)
      obtain ⟨L, hL⟩ : ∃ L, 8 - k = L := ⟨_, rfl⟩
      rw [hL] at hsl har
      obtain ⟨p, hp⟩ : ∃ p : Nat, (k : Int) + 4 = (p : Int) := ⟨k + 4, by omega⟩
      have hp0 : (0 : Int) ≤ p := by omega
      have hp8 : (p : Int) < 8 := by omega
      have hwp : IntKind.i64.wrap (p : Int) = (p : Int) := by rw [IntKind.wrap_i64]; omega
      have HP := Lib.hid (And.intro hlt (show k + 4 = p by omega))
      have HZ := Lib.hid hz
      clear hz hL
      go_wp2_with fail
      refine (addTimes_any (w.heap.size + 1 + 1 + 1) (w.heap.size + 1) 0 k z (pN y) s (by omega) (by rw [← HZ.out]; exact pN_lt _ _) (pN_lt y) H.out.1.lt (by omega) wr H.out.2.rS (fun j hj => H.out.2.at_y j hj)).mono ?_
      rintro e w5 ⟨c, s1, rfl, hI, hCA⟩
      have HC := Lib.hid (H.out.2.after hCA.bt hCA.row)
      have HT := Lib.hid (show T1 x y (k + 1) (updN s1 p c) from by
        rw [← HZ.out] at hI
        have := H.out.1.next HP.out.1 hI
        rwa [HP.out.2] at this)
      have co := HC.out.at_ p (by omega)
      have fo := frozen_of_row w5 (w.heap.size + 1 + 1 + 1) p _ _ HC.out.rS
      clear hI hCA H
      go_wp2_with fail
      go_roundw
      case rel => exact ⟨k + 1, updN s1 p c, by have := HP.out.1; omega, by go_num, Lib.hid ⟨HT.out, HC.out.set p c (by omega)⟩⟩
      case measure => simp [intOf]; omega
    · obtain rfl : k = 4 := by omega
      have hlt' : ¬ ((4 : Nat) : Int) < 4 := by omega
      have H2 := Lib.hid (show T2 m (x * y) 0 0 s ∧ CT3 w F m x y s wr from by
        refine ⟨⟨H.out.1.lt, by omega, fun t ht => by omega, 0, by simp, ?_⟩, H.out.2⟩
        rw [H.out.1.sum, val_pN, val_pN, Nat.mod_eq_of_lt HB.out.1, Nat.mod_eq_of_lt HB.out.2.1]
        simp)
      clear H hlt hlt' hk0 hk
      simp only [Int.cast_ofNat_Int]
      go_wp2_with fail
      go_loopw [10, 27] (fun bv iv wr => ∃ (k be : Nat) (s : Nat → Nat), k ≤ 4 ∧ be ≤ 1 ∧ bv = .int .u64 be ∧ iv = .int .i64 k ∧ Hid (T2 m (x * y) k be s ∧ CT3 w F m x y s wr)) (fun _ iv _ => 4 - (intOf iv).toNat)
      case atStart => exact ⟨0, 0, s, by omega, by omega, rfl, rfl, H2⟩
      case round =>
        obtain ⟨k, be, s, hk, hbe, rfl, rfl, H⟩ := hrel
        clear H2
        have hk0 : (0 : Int) ≤ k := by omega
        by_cases hlt : k < 4
        · have hlt' : (k : Int) < 4 := by omega
          obtain ⟨p, hp⟩ : ∃ p : Nat, (k : Int) + 4 = (p : Int) := ⟨k + 4, by omega⟩
          have hp0 : (0 : Int) ≤ p := by omega
          have hp8 : (p : Int) < 8 := by omega
          have hwp : IntKind.i64.wrap (p : Int) = (p : Int) := by rw [IntKind.wrap_i64]; omega
          obtain ⟨q, hq⟩ : ∃ q, s k * nin m % 18446744073709551616 = q := ⟨_, rfl⟩
          have HP := Lib.hid (And.intro hlt (And.intro (show k + 4 = p by omega) (And.intro hq hbe)))
          obtain ⟨L, hL⟩ : ∃ L, 8 - k = L := ⟨_, rfl⟩
          have HL := Lib.hid hL
          clear hq hL
          go_wp2_with fail
          refine region_quiet_tail 14 (CT3 w F m x y s) (by kernel_rfl) (by kernel_rfl) (H.out.2.drew) ?_
          simp only [List.take_succ_cons, List.take_zero, List.drop_succ_cons, List.drop_zero]
          with_reducible refine q_val (.int .i64 (k : Nat)) (by kernel_rfl) (fun _ _ => by kernel_rfl) ?_
          with_reducible refine q_sem2 (Instr.sliceAt 58 (.pointer (some ⟨w.heap.size + 1 + 1 + 1, 0, none⟩)) (some (.int .i64 (k : Nat))) none none) (.slice (some ⟨w.heap.size + 1 + 1 + 1, k, none⟩) L L) (by kernel_rfl) (by kernel_rfl) (fun w' _ => by rw [← HL.out]; exact slice8 _ k (by have := HP.out.1; omega) w') ?_
          with_reducible refine q_sem2 (Instr.arrayAt 24 (.slice (some ⟨w.heap.size + 1 + 1 + 1, k, none⟩) L L)) (.pointer (some ⟨w.heap.size + 1 + 1 + 1, k, none⟩)) (by kernel_rfl) (by kernel_rfl) (fun w' _ => by rw [← HL.out]; exact arr8 _ k (by have := HP.out.1; omega) w') ?_
          with_reducible refine q_val (.pointer (some ⟨F, 0, none⟩)) (by kernel_rfl) (fun _ _ => by kernel_rfl) ?_
          with_reducible refine q_val (.pointer (some ⟨F, 0, none⟩)) (by kernel_rfl) (fun _ _ => run_nil (.tmp 33) _ rfl (by kernel_rfl)) ?_
          with_reducible refine q_sem2 (Instr.fieldAt 49 (.pointer (some ⟨F, 0, none⟩)) 0) (.pointer (some ⟨F, 0, none⟩)) (by kernel_rfl) (by kernel_rfl) (fun w' _ => fld_at F w') ?_
          with_reducible refine q_val (.int .i64 (k : Nat)) (by kernel_rfl) (fun _ _ => by kernel_rfl) ?_
          with_reducible refine q_sem2 (Instr.indexAt 58 (.pointer (some ⟨w.heap.size + 1 + 1 + 1, 0, none⟩)) (.int .i64 (k : Nat))) (.pointer (some ⟨w.heap.size + 1 + 1 + 1, k, none⟩)) (by kernel_rfl) (by kernel_rfl) (fun w' _ => at8f _ k (by have := HP.out.1; omega) w') ?_
          with_reducible refine q_load 22 (.tmp 37) (.pointer (some ⟨w.heap.size + 1 + 1 + 1, k, none⟩)) (.int .u64 (s k : Nat)) rfl (by kernel_rfl) (by kernel_rfl) (fun _ c => load_u64 _ _ _ _ (c.at_ k (by have := HP.out.1; omega))) ?_
          with_reducible refine q_val (.pointer (some ⟨F, 0, none⟩)) (by kernel_rfl) (fun _ _ => by kernel_rfl) ?_
          with_reducible refine q_val (.pointer (some ⟨F, 0, none⟩)) (by kernel_rfl) (fun _ _ => run_nil (.tmp 39) _ rfl (by kernel_rfl)) ?_
          with_reducible refine q_sem2 (Instr.fieldAt 49 (.pointer (some ⟨F, 0, none⟩)) 1) (.pointer (some ⟨F, 4, none⟩)) (by kernel_rfl) (by kernel_rfl) (fun w' _ => fld_inv F w') ?_
          with_reducible refine q_load 22 (.tmp 41) (.pointer (some ⟨F, 4, none⟩)) (.int .u64 (nin m : Nat)) rfl (by kernel_rfl) (by kernel_rfl) (fun _ c => ld_inv c.fld) ?_
          with_reducible refine q_bin .mul 22 _ _ 22 (.int .u64 (s k : Nat)) (.int .u64 (nin m : Nat)) (.int .u64 (q : Nat)) rfl (by kernel_rfl) (by kernel_rfl) (by kernel_rfl) (fun _ => by kernel_rfl) (fun w' => mul_u _ _ _ HP.out.2.2.1 w') ?_
          with_reducible refine wpQuiet_nil ?_
          intro wx hC
          have HC := Lib.hid hC
          clear hC 
          simp only [Act.put, List.setIfInBounds_toArray, List.set_cons_succ, List.set_cons_zero]
          go_wp2_with fail
          refine (addTimes_any (w.heap.size + 1 + 1 + 1) F 0 k q (pN m) s (by have := HP.out.1; omega) (by rw [← HP.out.2.2.1]; exact Nat.mod_lt _ (by omega)) (pN_lt m) H.out.1.lt (by have := HC.out.hF; omega) wx HC.out.rS (fun j hj => HC.out.at_m j hj)).mono ?_
          rintro e w5 ⟨c, s1, rfl, hI, hCA⟩
          have HC5 := Lib.hid (HC.out.after hCA.bt hCA.row)
          obtain ⟨d, be', hbe', hd, he, hA⟩ := add64_ex (s1 p) c be (hI.lt p) hI.clt HP.out.2.2.2
          have HT := Lib.hid (show T2 m (x * y) (k + 1) be' (updN s1 p d) from by
            rw [← HP.out.2.2.1] at hI
            rw [← HP.out.2.1] at he ⊢
            exact H.out.1.next HC.out.fld.odd HC.out.fld.lt HP.out.1 hI hd hbe' he)
          have co := HC5.out.at_ p (by omega)
          have fo := frozen_of_row w5 (w.heap.size + 1 + 1 + 1) p _ _ HC5.out.rS
          obtain ⟨z, hz⟩ : ∃ z, s1 p = z := ⟨_, rfl⟩
          rw [hz] at hA co
          have HBE := Lib.hid hbe'
          clear hI hCA H HC he hd hz hbe'
          go_wp2_with fail
          go_roundw
          case rel => exact ⟨k + 1, be', updN s1 p d, by have := HP.out.1; omega, HBE.out, rfl, by go_num, Lib.hid ⟨HT.out, HC5.out.set p d (by omega)⟩⟩
          case measure => simp [intOf]; omega
        · obtain rfl : k = 4 := by omega
          have hlt' : ¬ ((4 : Nat) : Int) < 4 := by omega
          have hsl := slice8 (w.heap.size + 1 + 1 + 1) 4 (by omega)
          have har := arr8 (w.heap.size + 1 + 1 + 1) 4 (by omega)
          have HD := Lib.hid (H.out.1.done H.out.2.fld.odd H.out.2.fld.big H.out.2.fld.lt HB.out.2.2)
          have HLD := Lib.hid (ld_top H.out.2 H.out.1.lt)
          obtain ⟨u, hu⟩ : ∃ u, val (fun j => s (4 + j)) 4 = u := ⟨_, rfl⟩
          rw [hu] at HD HLD
          clear hu
          have hbq : ((be : Int) == 1) = decide (be = 1) := by
            by_cases e : be = 1
            · subst e; rfl
            · have : ¬ (be : Int) = 1 := by omega
              simp [e, this]
          obtain ⟨B, hB⟩ : ∃ B, decide (be = 1) = B := ⟨_, rfl⟩
          rw [hB] at HD hbq
          clear hB
          go_wp2_with (refine wpList_ld rfl 24 _ rfl (.pointer (some ⟨w.heap.size + 1 + 1 + 1, 4, none⟩)) (.agg (pw u)) rfl HLD.out ?_)
          refine (lessOnce_any F m u B _ H.out.2.fld).mono ?_
          rintro e w6 ⟨rfl, hb6⟩
          have H6 := Lib.hid (H.out.2.below hb6)
          clear hb6 HLD
          go_wp2_with (refine wpList_store_row rfl 24 _ _ rfl (w.heap.size + 1 + 1) (pw (lessV m u B)) rfl rfl 24 #[.int .u64 0, .int .u64 0, .int .u64 0, .int .u64 0] (by exact H6.out.r2) (by rw [pw_size]; exact infoW4) (by rw [pw_size]; rfl) (pw_one _) ?_)
          (try simp only [Act.put])
          refine bodyPost_ret (v := .agg (pw (lessV m u B))) (results_cell_row (p := 6) rfl _ _ (w.heap.size + 1 + 1) 24 (pw (lessV m u B)) (0, 0) _ rfl (setRow_heap _ _ _ _ _ _ H6.out.r2) Try.underlying24 rfl (by rw [pw_size]; exact infoW4)) rfl ⟨?_, below_setRow H6.out.old (by omega) _⟩
          exact congrArg Ending.returned HD.out
end Go.Proofs.Ytfgefifplmhopaa
namespace Go.Proofs.Ytfgefifplmhopaa
open Go.RowKit
structure CW (w : World) (F m : Nat) (L : List (Nat × Array Value)) (wx : World) : Prop where
  old : Below w.heap.size w wx
  fld : FldAt wx F m
  hF : F < w.heap.size
  rows : ∀ p ∈ L, wx.heap[p.1]? = some (.cells p.2 24 (0, 0))
theorem CW.is {w wx : World} {F m : Nat} {L : List (Nat × Array Value)} (c : CW w F m L wx) (g : Nat) (cs : Array Value) (hm : (g, cs) ∈ L) : wx.heap[g]? = some (.cells cs 24 (0, 0)) := c.rows _ hm
theorem CW.below {w wx w' : World} {F m : Nat} {L : List (Nat × Array Value)} (c : CW w F m L wx) (hb : Below wx.heap.size wx w') : CW w F m L w' :=
  ⟨c.old.trans (hb.mono c.old.size), c.fld.below hb, c.hF, fun p hp => (hb.block _ (Array.getElem?_eq_some_iff.1 (c.rows p hp)).1).trans (c.rows p hp)⟩
theorem CW.drew {w wx : World} {F m : Nat} {L : List (Nat × Array Value)} (c : CW w F m L wx) : CW w F m L wx.drew := c.below (Below.drew (Below.refl _ _))
theorem CW.new {w wx : World} {F m : Nat} {L : List (Nat × Array Value)} (c : CW w F m L wx) (cs : Array Value) : CW w F m ((wx.heap.size, cs) :: L) (wx.alloc (.cells cs 24)) := by
  have h := c.below ((Below.refl _ _).alloc (Nat.le_refl _) (.cells cs 24))
  refine ⟨h.old, h.fld, h.hF, fun p hp => ?_⟩
  rcases List.mem_cons.1 hp with rfl | hp
  · exact heap_alloc_new _ _
  · exact h.rows p hp
theorem CW.put {w wx : World} {F m : Nat} {L : List (Nat × Array Value)} (c : CW w F m L wx) (g : Nat) (c0 cs : Array Value) (L' : List (Nat × Array Value)) (hg : w.heap.size ≤ g) (hm : (g, c0) ∈ L) (hs : ∀ p ∈ L', p ∈ L ∧ p.1 ≠ g) : CW w F m ((g, cs) :: L') (wx.setRow g cs) := by
  have h2 := c.hF
  refine ⟨below_setRow c.old hg _, ⟨(setRow_other _ _ _ _ (by omega)).trans c.fld.row, c.fld.odd, c.fld.big, c.fld.lt⟩, c.hF, fun p hp => ?_⟩
  rcases List.mem_cons.1 hp with rfl | hp
  · exact setRow_heap _ _ _ _ _ _ (c.rows _ hm)
  · exact (setRow_other _ _ _ _ (hs p hp).2).trans (c.rows p (hs p hp).1)
theorem CW.less {w wx : World} {F m : Nat} {L : List (Nat × Array Value)} (c : CW w F m L wx) (L' : List (Nat × Array Value)) (hs : ∀ p ∈ L', p ∈ L) : CW w F m L' wx := ⟨c.old, c.fld, c.hF, fun p hp => c.rows p (hs p hp)⟩
theorem CW.start {w : World} {F m : Nat} (h : FldAt w F m) : CW w F m [] w := ⟨Below.refl _ _, h, h.less, fun p hp => by cases hp⟩
theorem CW.one {w : World} {F m : Nat} (h : FldAt w F m) (a : Nat) : CW w F m [(w.heap.size + 1, #[.int .u64 0, .int .u64 0, .int .u64 0, .int .u64 0]), (w.heap.size, pw a)] ((w.alloc (.cells (pw a) 24)).alloc (.cells #[.int .u64 0, .int .u64 0, .int .u64 0, .int .u64 0] 24)) := by
  have := ((CW.start h).new (pw a)).new #[.int .u64 0, .int .u64 0, .int .u64 0, .int .u64 0]
  rwa [World.size_alloc] at this
theorem CW.two {w : World} {F m : Nat} (h : FldAt w F m) (a b : Nat) : CW w F m [(w.heap.size + 1 + 1, #[.int .u64 0, .int .u64 0, .int .u64 0, .int .u64 0]), (w.heap.size + 1, pw b), (w.heap.size, pw a)] (((w.alloc (.cells (pw a) 24)).alloc (.cells (pw b) 24)).alloc (.cells #[.int .u64 0, .int .u64 0, .int .u64 0, .int .u64 0] 24)) := by
  have := (((CW.start h).new (pw a)).new (pw b)).new #[.int .u64 0, .int .u64 0, .int .u64 0, .int .u64 0]
  rwa [World.size_alloc, World.size_alloc] at this
theorem CW.calls {w : World} {F m : Nat} {L : List (Nat × Array Value)} {f : FuncId} {args : Array Value} {v : Value} (h : ∀ wx, FldAt wx F m → Calls Try.prog f args wx fun e w' => e = .returned v ∧ Below wx.heap.size wx w') : ∀ wx, CW w F m L wx → Calls Try.prog f args wx fun e w' => e = .returned v ∧ CW w F m L w' :=
  fun wx c => (h wx c.fld).mono fun _ _ hh => ⟨hh.1, c.below hh.2⟩
theorem prod_lt {a b c m : Nat} (ha : a < c) (hb : b < m) : a * b < c * m := by
  have h1 : a * b ≤ c * b := Nat.mul_le_mul_right b (Nat.le_of_lt ha)
  have h2 : c * b < c * m := Nat.mul_lt_mul_of_pos_left hb (by omega)
  omega
end Go.Proofs.Ytfgefifplmhopaa
namespace Go.Proofs.Ytfgefifplmhopaa
open Go.RowKit
theorem sqr_lt {m : Nat} (h : 1 < m) : sqr m < m := Nat.mod_lt _ (by omega)
set_option maxRecDepth 100000 in
set_option maxHeartbeats 2000000 in
-- WHAT scaled COMES TO.
theorem scaled_any (F m a : Nat) (ha : a < 115792089237316195423570985008687907853269984665640564039457584007913129639936) (w : World) (hF : FldAt w F m) : Calls Try.prog 41 #[.pointer (some ⟨F, 0, none⟩), .agg (pw a)] w fun e w' => e = .returned (.agg (pw (a * 115792089237316195423570985008687907853269984665640564039457584007913129639936 % m))) ∧ Below w.heap.size w w' := by
  have H0 := Lib.hid (CW.one hF a)
  have HT := Lib.hid (CW.calls (w := w) (F := F) (m := m) (L := [(w.heap.size + 1, #[.int .u64 0, .int .u64 0, .int .u64 0, .int .u64 0]), (w.heap.size, pw a)]) (fun wx hf => times_any F m a (sqr m) ha (Nat.lt_trans (sqr_lt hf.big) hf.lt) (prod_lt ha (sqr_lt hf.big)) wx hf))
  have HQ := Lib.hid (show mnt m a (sqr m) = a * 115792089237316195423570985008687907853269984665640564039457584007913129639936 % m from mnt_scaled hF.odd hF.big a)
  clear hF ha
  rw [HQ.out] at HT
  obtain ⟨y, hy⟩ : ∃ y, a * 115792089237316195423570985008687907853269984665640564039457584007913129639936 % m = y := ⟨_, rfl⟩
  rw [hy] at HT ⊢
  clear hy HQ
  go_enter Try.func41, Try.ntmps41
  go_wp2_with fail
  refine region_quiet_tail 7 (CW w F m [(w.heap.size + 1, #[.int .u64 0, .int .u64 0, .int .u64 0, .int .u64 0]), (w.heap.size, pw a)]) (by kernel_rfl) (by kernel_rfl) (H0.out.drew) ?_
  simp only [List.take_succ_cons, List.take_zero, List.drop_succ_cons, List.drop_zero]
  with_reducible refine q_val (.pointer (some ⟨F, 0, none⟩)) (by kernel_rfl) (fun _ _ => by kernel_rfl) ?_
  with_reducible refine q_load 24 (.tmp 3) (.pointer (some ⟨w.heap.size, 0, none⟩)) (.agg (pw a)) rfl (by kernel_rfl) (by kernel_rfl) (fun _ c => ld_pw (c.is _ _ (by simp))) ?_
  with_reducible refine q_val (.pointer (some ⟨F, 0, none⟩)) (by kernel_rfl) (fun _ _ => by kernel_rfl) ?_
  with_reducible refine q_val (.pointer (some ⟨F, 0, none⟩)) (by kernel_rfl) (fun _ _ => run_nil (.tmp 7) _ rfl (by kernel_rfl)) ?_
  with_reducible refine q_sem2 (Instr.fieldAt 49 (.pointer (some ⟨F, 0, none⟩)) 2) (.pointer (some ⟨F, 5, none⟩)) (by kernel_rfl) (by kernel_rfl) (fun w' _ => fld_sq F w') ?_
  with_reducible refine q_load 24 (.tmp 9) (.pointer (some ⟨F, 5, none⟩)) (.agg (pw (sqr m))) rfl (by kernel_rfl) (by kernel_rfl) (fun _ c => ld_sq c.fld) ?_
  with_reducible refine q_call 40 #[.pointer (some ⟨F, 0, none⟩), .agg (pw a), .agg (pw (sqr m))] (.agg (pw y)) (by kernel_rfl) (fun _ => by kernel_rfl) (HT.out) ?_
  with_reducible refine wpQuiet_nil ?_
  intro wx hC
  have HC := Lib.hid hC
  clear hC H0 HT
  simp only [Act.put, List.setIfInBounds_toArray, List.set_cons_succ, List.set_cons_zero]
  go_wp2_with (refine wpList_store_row rfl 24 _ _ rfl (w.heap.size + 1) (pw y) rfl rfl 24 (#[.int .u64 0, .int .u64 0, .int .u64 0, .int .u64 0]) (by exact HC.out.is _ _ (by simp)) (by rw [pw_size]; exact infoW4) (by first | rfl | (rw [pw_size]; rfl) | (rw [pw_size, pw_size])) (pw_one _) ?_)
  (try simp only [Act.put])
  refine bodyPost_ret (v := .agg (pw y)) (results_cell_row (p := 4) rfl _ _ (w.heap.size + 1) 24 (pw y) (0, 0) _ rfl (setRow_heap _ _ _ _ _ _ (by exact HC.out.is _ (#[.int .u64 0, .int .u64 0, .int .u64 0, .int .u64 0]) (by simp))) Try.underlying24 rfl (by rw [pw_size]; exact infoW4)) rfl ⟨rfl, below_setRow HC.out.old (by omega) _⟩
set_option maxRecDepth 100000 in
set_option maxHeartbeats 2000000 in
-- WHAT Mul COMES TO.
theorem fmul_any (F m a b : Nat) (ha : a < 115792089237316195423570985008687907853269984665640564039457584007913129639936) (hb : b < 115792089237316195423570985008687907853269984665640564039457584007913129639936) (w : World) (hF : FldAt w F m) : Calls Try.prog 15 #[.pointer (some ⟨F, 0, none⟩), .agg (pw a), .agg (pw b)] w fun e w' => e = .returned (.agg (pw (a * b % m))) ∧ Below w.heap.size w w' := by
  have H0 := Lib.hid (CW.two hF a b)
  have HSC := Lib.hid (CW.calls (w := w) (F := F) (m := m) (L := [(w.heap.size + 1 + 1, #[.int .u64 0, .int .u64 0, .int .u64 0, .int .u64 0]), (w.heap.size + 1, pw b), (w.heap.size, pw a)]) (fun wx hf => scaled_any F m a ha wx hf))
  have hlt : a * 115792089237316195423570985008687907853269984665640564039457584007913129639936 % m < m := Nat.mod_lt _ (by have := hF.big; omega)
  have HT := Lib.hid (CW.calls (w := w) (F := F) (m := m) (L := [(w.heap.size + 1 + 1, #[.int .u64 0, .int .u64 0, .int .u64 0, .int .u64 0]), (w.heap.size + 1, pw b), (w.heap.size, pw a)]) (fun wx hf => times_any F m (a * 115792089237316195423570985008687907853269984665640564039457584007913129639936 % m) b (Nat.lt_trans hlt hf.lt) hb (by rw [Nat.mul_comm]; exact prod_lt hb hlt) wx hf))
  rw [mnt_back hF.odd hF.big a b] at HT
  obtain ⟨y, hy⟩ : ∃ y, a * b % m = y := ⟨_, rfl⟩
  obtain ⟨z, hz⟩ : ∃ z, a * 115792089237316195423570985008687907853269984665640564039457584007913129639936 % m = z := ⟨_, rfl⟩
  rw [hy] at HT ⊢
  rw [hz] at HT HSC
  clear hF ha hb hlt hy hz
  go_enter Try.func15, Try.ntmps15
  go_wp2_with fail
  refine region_quiet_tail 6 (CW w F m [(w.heap.size + 1 + 1, #[.int .u64 0, .int .u64 0, .int .u64 0, .int .u64 0]), (w.heap.size + 1, pw b), (w.heap.size, pw a)]) (by kernel_rfl) (by kernel_rfl) (H0.out.drew) ?_
  simp only [List.take_succ_cons, List.take_zero, List.drop_succ_cons, List.drop_zero]
  with_reducible refine q_val (.pointer (some ⟨F, 0, none⟩)) (by kernel_rfl) (fun _ _ => by kernel_rfl) ?_
  with_reducible refine q_val (.pointer (some ⟨F, 0, none⟩)) (by kernel_rfl) (fun _ _ => by kernel_rfl) ?_
  with_reducible refine q_load 24 (.tmp 4) (.pointer (some ⟨w.heap.size, 0, none⟩)) (.agg (pw a)) rfl (by kernel_rfl) (by kernel_rfl) (fun _ c => ld_pw (c.is _ _ (by simp))) ?_
  with_reducible refine q_call 41 #[.pointer (some ⟨F, 0, none⟩), .agg (pw a)] (.agg (pw z)) (by kernel_rfl) (fun _ => by kernel_rfl) (HSC.out) ?_
  with_reducible refine q_load 24 (.tmp 5) (.pointer (some ⟨w.heap.size + 1, 0, none⟩)) (.agg (pw b)) rfl (by kernel_rfl) (by kernel_rfl) (fun _ c => ld_pw (c.is _ _ (by simp))) ?_
  with_reducible refine q_call 40 #[.pointer (some ⟨F, 0, none⟩), .agg (pw z), .agg (pw b)] (.agg (pw y)) (by kernel_rfl) (fun _ => by kernel_rfl) (HT.out) ?_
  with_reducible refine wpQuiet_nil ?_
  intro wx hC
  have HC := Lib.hid hC
  clear hC H0 HT HSC
  simp only [Act.put, List.setIfInBounds_toArray, List.set_cons_succ, List.set_cons_zero]
  go_wp2_with (refine wpList_store_row rfl 24 _ _ rfl (w.heap.size + 1 + 1) (pw y) rfl rfl 24 (#[.int .u64 0, .int .u64 0, .int .u64 0, .int .u64 0]) (by exact HC.out.is _ _ (by simp)) (by rw [pw_size]; exact infoW4) (by first | rfl | (rw [pw_size]; rfl) | (rw [pw_size, pw_size])) (pw_one _) ?_)
  (try simp only [Act.put])
  refine bodyPost_ret (v := .agg (pw y)) (results_cell_row (p := 6) rfl _ _ (w.heap.size + 1 + 1) 24 (pw y) (0, 0) _ rfl (setRow_heap _ _ _ _ _ _ (by exact HC.out.is _ (#[.int .u64 0, .int .u64 0, .int .u64 0, .int .u64 0]) (by simp))) Try.underlying24 rfl (by rw [pw_size]; exact infoW4)) rfl ⟨rfl, below_setRow HC.out.old (by omega) _⟩
end Go.Proofs.Ytfgefifplmhopaa
namespace Go.Proofs.Ytfgefifplmhopaa
open Go.RowKit

/-- A guess that is not too small and whose times fit in is the quotient. -/
theorem quot_of {A y q : Nat} (hy : 0 < y) (h1 : q * y ≤ A) (h2 : A / y ≤ q) : q = A / y :=
  Nat.le_antisymm ((Nat.le_div_iff_mul_le hy).2 h1) h2

/-- Half a quotient: the guess q, and what it leaves, r. -/
structure Half (y1 y0 v u q r : Nat) : Prop where
  split : q * y1 + r = v
  least : (v * 4294967296 + u) / (4294967296 * y1 + y0) ≤ q
  most : q ≤ 4294967297
  rest : r < 4294967296

section
variable {y1 y0 v u q r : Nat} (h31 : 2147483648 ≤ y1) (h32 : y1 < 4294967296) (hy0 : y0 < 4294967296) (hu : u < 4294967296)
include h31 h32 hy0 hu

theorem Half.start (hv : v < 4294967296 * y1 + y0) : Half y1 y0 v u (v / y1) (v % y1) := by
  have hpos : 0 < y1 := by omega
  have hd := Nat.div_add_mod v y1
  have hm := Nat.mod_lt v hpos
  refine ⟨by rw [Nat.mul_comm]; exact hd, ?_, ?_, by omega⟩
  · have hlt : v * 4294967296 + u < (v / y1 + 1) * (4294967296 * y1 + y0) := by
      have h1 : v + 1 ≤ (v / y1 + 1) * y1 := by rw [Nat.add_mul, Nat.one_mul, Nat.mul_comm]; omega
      have h2 : (v + 1) * 4294967296 ≤ (v / y1 + 1) * y1 * 4294967296 := Nat.mul_le_mul_right _ h1
      have h3 : (v / y1 + 1) * (4294967296 * y1 + y0) = (v / y1 + 1) * y1 * 4294967296 + (v / y1 + 1) * y0 := by grind
      omega
    have : (v * 4294967296 + u) / (4294967296 * y1 + y0) < v / y1 + 1 := by rw [Nat.div_lt_iff_lt_mul (by omega)]; exact hlt
    omega
  · have : v / y1 < 4294967298 := by rw [Nat.div_lt_iff_lt_mul hpos]; omega
    omega

omit hu in
theorem Half.fits (h : Half y1 y0 v u q r) (h2 : q * y0 ≤ 4294967296 * r + u) : q = (v * 4294967296 + u) / (4294967296 * y1 + y0) := by
  refine quot_of (by omega) ?_ h.least
  have h3 : q * (4294967296 * y1 + y0) = (q * y1) * 4294967296 + q * y0 := by grind
  have h4 := h.split
  omega

omit h31 h32 hy0 in
theorem Half.less (h : Half y1 y0 v u q r) (hv : v < 4294967296 * y1 + y0) (ht : 4294967296 ≤ q ∨ 4294967296 * r + u < q * y0) : (v * 4294967296 + u) / (4294967296 * y1 + y0) < q := by
  rcases ht with ht | ht
  · refine Nat.lt_of_lt_of_le ?_ ht
    rw [Nat.div_lt_iff_lt_mul (by omega)]
    omega
  · rw [Nat.div_lt_iff_lt_mul (by omega)]
    have h3 : q * (4294967296 * y1 + y0) = (q * y1) * 4294967296 + q * y0 := by grind
    have h4 := h.split
    omega

omit h31 h32 hy0 in
theorem Half.down {p : Nat} (h : Half y1 y0 v u (p + 1) r) (hv : v < 4294967296 * y1 + y0) (ht : 4294967296 ≤ p + 1 ∨ 4294967296 * r + u < (p + 1) * y0) (hr : r + y1 < 4294967296) : Half y1 y0 v u p (r + y1) := by
  have hl := h.less hu hv ht
  have h4 := h.split
  have h5 := h.most
  exact ⟨by rw [Nat.add_mul] at h4; omega, by omega, by omega, hr⟩

omit h31 h32 in
theorem Half.ends {p : Nat} (h : Half y1 y0 v u (p + 1) r) (hv : v < 4294967296 * y1 + y0) (ht : 4294967296 ≤ p + 1 ∨ 4294967296 * r + u < (p + 1) * y0) (hr : 4294967296 ≤ r + y1) : p = (v * 4294967296 + u) / (4294967296 * y1 + y0) := by
  have hl := h.less hu hv ht
  have h4 := h.split
  have h5 := h.most
  refine quot_of (by omega) ?_ (by omega)
  have h3 : p * (4294967296 * y1 + y0) = (p * y1) * 4294967296 + p * y0 := by grind
  have h6 : p * y0 ≤ 4294967296 * 4294967295 := Nat.mul_le_mul (by omega) (by omega)
  rw [Nat.add_mul] at h4
  omega

omit h31 h32 hy0 in
theorem Half.pos (h : Half y1 y0 v u q r) (hv : v < 4294967296 * y1 + y0) (ht : 4294967296 ≤ q ∨ 4294967296 * r + u < q * y0) : 0 < q := by
  exact Nat.lt_of_le_of_lt (Nat.zero_le _) (h.less hu hv ht)
end

/-- Both halves are the whole. -/
theorem halves {y hi u1 u0 : Nat} (hy : 0 < y) :
    (hi * 4294967296 + u1) / y * 4294967296 + ((hi * 4294967296 + u1) % y * 4294967296 + u0) / y = (hi * 18446744073709551616 + (u1 * 4294967296 + u0)) / y := by
  have hd := Nat.div_add_mod (hi * 4294967296 + u1) y
  have e : hi * 18446744073709551616 + (u1 * 4294967296 + u0) = (hi * 4294967296 + u1) * 4294967296 + u0 := by omega
  rw [e]
  have e2 : (hi * 4294967296 + u1) * 4294967296 + u0 = y * ((hi * 4294967296 + u1) / y * 4294967296) + ((hi * 4294967296 + u1) % y * 4294967296 + u0) := by
    have : (hi * 4294967296 + u1) * 4294967296 = (y * ((hi * 4294967296 + u1) / y) + (hi * 4294967296 + u1) % y) * 4294967296 := by rw [hd]
    rw [this]
    grind
  rw [e2, Nat.mul_add_div hy]
end Go.Proofs.Ytfgefifplmhopaa
namespace Go.Proofs.Ytfgefifplmhopaa
open Go.RowKit

/-- What Div64 leaves: the quotient; a rest that nobody asks for. -/
def DivPost (q : Nat) (w : World) (e : Ending) (w' : World) : Prop := (∃ r : Int, e = .returned (.tuple #[.int .u64 (q : Int), .int .u64 r])) ∧ w = w'

theorem divpost_mk {q : Nat} {z r : Int} {w : World} (h : z = (q : Int)) : DivPost q w (.returned (.tuple #[.int .u64 z, .int .u64 r])) w := ⟨⟨r, by rw [h]⟩, rfl⟩

theorem div64_fin {hi lo y y1 y0 u1 u0 P Q : Nat} (hy : y = 4294967296 * y1 + y0) (hlo : lo = 4294967296 * u1 + u0) (_hpos : 0 < y1) (_h1 : (hi : Int) < y)
    (eP : P = (hi * 4294967296 + u1) / y) (eQ : Q = ((hi * 4294967296 + u1) % y * 4294967296 + u0) / (4294967296 * y1 + y0)) : P * 4294967296 + Q = (hi * 18446744073709551616 + lo) / y := by
  rw [← hy] at eQ
  rw [eP, eQ, halves (by omega), hlo, Nat.mul_comm 4294967296 u1]

set_option maxRecDepth 100000 in
set_option maxHeartbeats 8000000 in
theorem div64_big (hi lo y y1 y0 u1 u0 : Nat) (h0 : (0 : Int) < hi) (h1 : (hi : Int) < y) (hy : y = 4294967296 * y1 + y0) (hlo : lo = 4294967296 * u1 + u0)
    (h31 : 2147483648 ≤ y1) (h32 : y1 < 4294967296) (hy0 : y0 < 4294967296) (hu1 : u1 < 4294967296) (hu0 : u0 < 4294967296) (w : World)
    (a1 : bits .and .u64 (y : Int) 4294967295 = (y0 : Int)) (a2 : bits .and .u64 (lo : Int) 4294967295 = (u0 : Int)) (a3 : bits .or .u64 (hi : Int) 0 = (hi : Int))
    (hL : ∀ w, Calls Try.prog 77 #[.int .u64 y] w fun e w' => e = .returned (.int .i64 0) ∧ w = w') :
    Calls Try.prog 91 #[.int .u64 hi, .int .u64 lo, .int .u64 y] w (DivPost ((hi * 18446744073709551616 + lo) / y) w) := by
  have hy' : (9223372036854775808 : Int) ≤ y := by omega
  have hy'' : (y : Int) ≤ 18446744073709551615 := by omega
  have hlo' : (lo : Int) ≤ 18446744073709551615 := by omega
  have n0 : ((y : Int) == 0) = false := by simp; omega
  have n1 : ¬ (y : Int) ≤ hi := by omega
  have n2 : ((hi : Int) == 0) = false := by simp; omega
  have n3 : (0 : Int) ≤ hi := by omega
  have n4 : (hi : Int) ≤ 18446744073709551615 := by omega
  have n5 : (0 : Int) ≤ lo := by omega
  have n6 : (0 : Int) ≤ y := by omega
  have d1 : (y : Int) / 4294967296 = (y1 : Int) := by omega
  have d2 : (lo : Int) / 4294967296 = (u1 : Int) := by omega
  have d3 : (lo : Int) / 18446744073709551616 = 0 := by omega
  have m1 : (1 : Int) ≤ y1 := by omega
  have m2 : (y1 : Int) ≤ 4294967295 := by omega
  have m3 : (u1 : Int) ≤ 4294967295 := by omega
  have m4 : (u0 : Int) ≤ 4294967295 := by omega
  have m5 : (0 : Int) ≤ u1 := by omega
  have m6 : (0 : Int) ≤ u0 := by omega
  have m7 : (0 : Int) ≤ y1 := by omega
  have H31 := Lib.hid h31
  have H32 := Lib.hid h32
  have HY0 := Lib.hid hy0
  have HU1 := Lib.hid hu1
  have HU2 := Lib.hid hu0
  have HY := Lib.hid hy
  have HLO := Lib.hid hlo
  have HV1 : Hid (hi < 4294967296 * y1 + y0) := Lib.hid (by omega)
  have hq := Half.start h31 h32 hy0 hu1 HV1.out
  obtain ⟨Q, eQ⟩ : ∃ Q, Q = hi / y1 := ⟨_, rfl⟩
  obtain ⟨R, eR⟩ : ∃ R, R = hi % y1 := ⟨_, rfl⟩
  rw [← eQ, ← eR] at hq
  have eq1 : (hi : Int) / (y1 : Int) = (Q : Int) := by rw [eQ]; simp
  have eq2 : IntKind.u64.wrap ((hi : Int) - IntKind.u64.wrap ((Q : Int) * (y1 : Int))) = (R : Int) := by
    have h := hq.split
    rw [← Int.natCast_mul, IntKind.wrap_u64, IntKind.wrap_u64]
    omega
  have bQ0 : (0 : Int) ≤ Q := by omega
  have bQ1 : (Q : Int) ≤ 4294967297 := by have := hq.most; omega
  have HQ0 := Lib.hid hq
  clear hq eQ eR hy hlo h31 h32 hy0 hu1 hu0 hy' 
  go_enter Try.func91, Try.ntmps91
  go_wp2_with fail
  refine (hL _).mono ?_
  rintro e w' ⟨rfl, rfl⟩
  go_wp2_with fail
  go_loop [15, 16] (fun a b => ∃ q r : Nat, a = .int .u64 q ∧ b = .int .u64 r ∧ Hid (Half y1 y0 hi u1 q r)) (fun a _ => (intOf a).toNat)
  case atStart => exact ⟨_, _, rfl, rfl, HQ0⟩
  case round =>
    obtain ⟨q, r, rfl, rfl, H1⟩ := hrel
    obtain ⟨m, hm⟩ : ∃ m : Nat, m = q * y0 := ⟨_, rfl⟩
    have r0 : (0 : Int) ≤ r := by omega
    have r1 : (r : Int) < 4294967296 := by have := H1.out.rest; omega
    have q0 : (0 : Int) ≤ q := by omega
    have q1 : (q : Int) ≤ 4294967297 := by have := H1.out.most; omega
    by_cases hbig : 4294967296 ≤ q
    · have t0 : (4294967296 : Int) ≤ q := by omega
      have ht : Hid (4294967296 ≤ q ∨ 4294967296 * r + u1 < q * y0) := Lib.hid (Or.inl hbig)
      have hqp : Hid (q = (q - 1) + 1) := Lib.hid (by omega)
      clear hbig hm
      by_cases hr : r + y1 < 4294967296
      · have t1 : ¬ (4294967296 : Int) ≤ r + y1 := by omega
        go_wp2
        go_round
        case rel => exact ⟨q - 1, r + y1, congrArg (Value.int .u64) (by have := hqp.out; omega), by go_num, Lib.hid (Half.down (p := q - 1) HU1.out (by rw [← hqp.out]; exact H1.out) HV1.out (by rw [← hqp.out]; exact ht.out) hr)⟩
        case measure => simp [intOf]; have := hqp.out; omega
      · have t1 : (4294967296 : Int) ≤ r + y1 := by omega
        obtain ⟨p, ep⟩ : ∃ p, p = q - 1 := ⟨_, rfl⟩
        have HQ1 := Lib.hid (Half.ends (p := q - 1) HY0.out HU1.out (by rw [← hqp.out]; exact H1.out) HV1.out (by rw [← hqp.out]; exact ht.out) (by omega))
        rw [← ep] at HQ1
        have hp : (q : Int) - 1 = (p : Int) := by have := hqp.out; omega
        clear ep
        clear hr
        obtain ⟨v, ev⟩ : ∃ v, v = (hi * 4294967296 + u1) % y := ⟨_, rfl⟩
        have hv : v < y := by rw [ev]; exact Nat.mod_lt _ (by omega)
        have EP : Hid (p = (hi * 4294967296 + u1) / y) := Lib.hid (by rw [HY.out]; exact HQ1.out)
        have tv : IntKind.u64.wrap (IntKind.u64.wrap (IntKind.u64.wrap ((hi : Int) * 4294967296) + (u1 : Int)) - IntKind.u64.wrap ((p : Int) * (y : Int))) = (v : Int) := by
          have hd := Nat.div_add_mod (hi * 4294967296 + u1) y
          rw [← EP.out, ← ev, Nat.mul_comm] at hd
          rw [← Int.natCast_mul]
          generalize p * y = m at *
          simp only [IntKind.wrap_u64]
          omega
        have EV := Lib.hid ev
        have c0 : (0 : Int) ≤ v := by omega
        have c1 : (v : Int) ≤ 18446744073709551615 := by omega
        have HV2 : Hid (v < 4294967296 * y1 + y0) := Lib.hid (by rw [← HY.out]; exact hv)
        have g5 : p < 4294967296 := by
          have h3 := HU1.out
          rw [EP.out, Nat.div_lt_iff_lt_mul (by omega)]
          omega
        have b5 : (p : Int) ≤ 4294967295 := by omega
        clear g5
        have b6 : (0 : Int) ≤ p := by omega
        have hq2 := Half.start H31.out H32.out HY0.out HU2.out HV2.out
        obtain ⟨Q2, eQ2⟩ : ∃ Q, Q = v / y1 := ⟨_, rfl⟩
        obtain ⟨R2, eR2⟩ : ∃ R, R = v % y1 := ⟨_, rfl⟩
        rw [← eQ2, ← eR2] at hq2
        have eq3 : (v : Int) / (y1 : Int) = (Q2 : Int) := by rw [eQ2]; simp
        have eq4 : IntKind.u64.wrap ((v : Int) - IntKind.u64.wrap ((Q2 : Int) * (y1 : Int))) = (R2 : Int) := by
          have h := hq2.split
          rw [← Int.natCast_mul, IntKind.wrap_u64, IntKind.wrap_u64]
          omega
        have bQ2 : (0 : Int) ≤ Q2 := by omega
        have bQ3 : (Q2 : Int) ≤ 4294967297 := by have := hq2.most; omega
        have HQ02 := Lib.hid hq2
        clear hq2 eQ2 eR2 ev hv
        go_wp2_with fail
        go_loop [18, 16] (fun a b => ∃ z rr : Nat, a = .int .u64 z ∧ b = .int .u64 rr ∧ Hid (Half y1 y0 v u0 z rr)) (fun a _ => (intOf a).toNat)
        case atStart => exact ⟨_, _, rfl, rfl, HQ02⟩
        case round =>
          obtain ⟨z, rr, rfl, rfl, H2⟩ := hrel
          obtain ⟨mm, hmm⟩ : ∃ mm : Nat, mm = z * y0 := ⟨_, rfl⟩
          have rr0 : (0 : Int) ≤ rr := by omega
          have rr1 : (rr : Int) < 4294967296 := by have := H2.out.rest; omega
          have zz0 : (0 : Int) ≤ z := by omega
          have zz1 : (z : Int) ≤ 4294967297 := by have := H2.out.most; omega
          by_cases hbigg : 4294967296 ≤ z
          · have tt0 : (4294967296 : Int) ≤ z := by omega
            have htt : Hid (4294967296 ≤ z ∨ 4294967296 * rr + u0 < z * y0) := Lib.hid (Or.inl hbigg)
            have hqpp : Hid (z = (z - 1) + 1) := Lib.hid (by omega)
            clear hbigg hmm
            by_cases hrr : rr + y1 < 4294967296
            · have tt1 : ¬ (4294967296 : Int) ≤ rr + y1 := by omega
              go_wp2
              go_round
              case rel => exact ⟨z - 1, rr + y1, congrArg (Value.int .u64) (by have := hqpp.out; omega), by go_num, Lib.hid (Half.down (p := z - 1) HU2.out (by rw [← hqpp.out]; exact H2.out) HV2.out (by rw [← hqpp.out]; exact htt.out) hrr)⟩
              case measure => simp [intOf]; have := hqpp.out; omega
            · have tt1 : (4294967296 : Int) ≤ rr + y1 := by omega
              obtain ⟨pp, epp⟩ : ∃ pp, pp = z - 1 := ⟨_, rfl⟩
              have HQ2 := Lib.hid (Half.ends (p := z - 1) HY0.out HU2.out (by rw [← hqpp.out]; exact H2.out) HV2.out (by rw [← hqpp.out]; exact htt.out) (by omega))
              rw [← epp] at HQ2
              have hpp : (z : Int) - 1 = (pp : Int) := by have := hqpp.out; omega
              clear epp
              clear hrr
              have fq := Lib.hid (div64_fin (P := p) (Q := pp) HY.out HLO.out (by have := H31.out; omega) h1 EP.out (by rw [← EV.out]; exact HQ2.out))
              have g7 : pp < 4294967296 := by
                have h := HV2.out
                have h3 := HU2.out
                have h5 := H31.out
                rw [HQ2.out, Nat.div_lt_iff_lt_mul (by omega)]
                omega
              have b7 : (pp : Int) ≤ 4294967295 := by omega
              clear g7
              have b8 : (0 : Int) ≤ pp := by omega
              go_wp2
              go_ret2
              exact divpost_mk (by have := fq.out; omega)
          · have tt0 : ¬ (4294967296 : Int) ≤ z := by omega
            have hww : IntKind.u64.wrap ((z : Int) * (y0 : Int)) = (mm : Int) := by
              have h1 : z * y0 ≤ 4294967295 * 4294967295 := Nat.mul_le_mul (by omega) (by have := HY0.out; omega)
              rw [← Int.natCast_mul, ← hmm, IntKind.wrap_u64]
              omega
            by_cases hgtt : 4294967296 * rr + u0 < mm
            · have tt2 : (4294967296 : Int) * rr + u0 < mm := by omega
              have htt : Hid (4294967296 ≤ z ∨ 4294967296 * rr + u0 < z * y0) := Lib.hid (Or.inr (by rw [← hmm]; exact hgtt))
              have hposs := H2.out.pos HU2.out HV2.out htt.out
              have hqpp : Hid (z = (z - 1) + 1) := Lib.hid (by omega)
              have zz2 : (1 : Int) ≤ z := by omega
              clear hbigg hmm hgtt hposs
              by_cases hrr : rr + y1 < 4294967296
              · have tt1 : ¬ (4294967296 : Int) ≤ rr + y1 := by omega
                go_wp2
                go_round
                case rel => exact ⟨z - 1, rr + y1, congrArg (Value.int .u64) (by have := hqpp.out; omega), by go_num, Lib.hid (Half.down (p := z - 1) HU2.out (by rw [← hqpp.out]; exact H2.out) HV2.out (by rw [← hqpp.out]; exact htt.out) hrr)⟩
                case measure => simp [intOf]; have := hqpp.out; omega
              · have tt1 : (4294967296 : Int) ≤ rr + y1 := by omega
                obtain ⟨pp, epp⟩ : ∃ pp, pp = z - 1 := ⟨_, rfl⟩
                have HQ2 := Lib.hid (Half.ends (p := z - 1) HY0.out HU2.out (by rw [← hqpp.out]; exact H2.out) HV2.out (by rw [← hqpp.out]; exact htt.out) (by omega))
                rw [← epp] at HQ2
                have hpp : (z : Int) - 1 = (pp : Int) := by have := hqpp.out; omega
                clear epp
                clear hrr
                have fq := Lib.hid (div64_fin (P := p) (Q := pp) HY.out HLO.out (by have := H31.out; omega) h1 EP.out (by rw [← EV.out]; exact HQ2.out))
                have g7 : pp < 4294967296 := by
                  have h := HV2.out
                  have h3 := HU2.out
                  have h5 := H31.out
                  rw [HQ2.out, Nat.div_lt_iff_lt_mul (by omega)]
                  omega
                have b7 : (pp : Int) ≤ 4294967295 := by omega
                clear g7
                have b8 : (0 : Int) ≤ pp := by omega
                go_wp2
                go_ret2
                exact divpost_mk (by have := fq.out; omega)
            · have tt2 : ¬ (4294967296 : Int) * rr + u0 < mm := by omega
              have HQ2 := Lib.hid (H2.out.fits H31.out H32.out HY0.out (by rw [← hmm]; omega))
              clear hbigg hmm hgtt
              have fq := Lib.hid (div64_fin (P := p) (Q := z) HY.out HLO.out (by have := H31.out; omega) h1 EP.out (by rw [← EV.out]; exact HQ2.out))
              have g7 : z < 4294967296 := by
                have h := HV2.out
                have h3 := HU2.out
                have h5 := H31.out
                rw [HQ2.out, Nat.div_lt_iff_lt_mul (by omega)]
                omega
              have b7 : (z : Int) ≤ 4294967295 := by omega
              clear g7
              have b8 : (0 : Int) ≤ z := by omega
              go_wp2
              go_ret2
              exact divpost_mk (by have := fq.out; omega)
    · have t0 : ¬ (4294967296 : Int) ≤ q := by omega
      have hw : IntKind.u64.wrap ((q : Int) * (y0 : Int)) = (m : Int) := by
        have h1 : q * y0 ≤ 4294967295 * 4294967295 := Nat.mul_le_mul (by omega) (by have := HY0.out; omega)
        rw [← Int.natCast_mul, ← hm, IntKind.wrap_u64]
        omega
      by_cases hgt : 4294967296 * r + u1 < m
      · have t2 : (4294967296 : Int) * r + u1 < m := by omega
        have ht : Hid (4294967296 ≤ q ∨ 4294967296 * r + u1 < q * y0) := Lib.hid (Or.inr (by rw [← hm]; exact hgt))
        have hpos := H1.out.pos HU1.out HV1.out ht.out
        have hqp : Hid (q = (q - 1) + 1) := Lib.hid (by omega)
        have q2 : (1 : Int) ≤ q := by omega
        clear hbig hm hgt hpos
        by_cases hr : r + y1 < 4294967296
        · have t1 : ¬ (4294967296 : Int) ≤ r + y1 := by omega
          go_wp2
          go_round
          case rel => exact ⟨q - 1, r + y1, congrArg (Value.int .u64) (by have := hqp.out; omega), by go_num, Lib.hid (Half.down (p := q - 1) HU1.out (by rw [← hqp.out]; exact H1.out) HV1.out (by rw [← hqp.out]; exact ht.out) hr)⟩
          case measure => simp [intOf]; have := hqp.out; omega
        · have t1 : (4294967296 : Int) ≤ r + y1 := by omega
          obtain ⟨p, ep⟩ : ∃ p, p = q - 1 := ⟨_, rfl⟩
          have HQ1 := Lib.hid (Half.ends (p := q - 1) HY0.out HU1.out (by rw [← hqp.out]; exact H1.out) HV1.out (by rw [← hqp.out]; exact ht.out) (by omega))
          rw [← ep] at HQ1
          have hp : (q : Int) - 1 = (p : Int) := by have := hqp.out; omega
          clear ep
          clear hr
          obtain ⟨v, ev⟩ : ∃ v, v = (hi * 4294967296 + u1) % y := ⟨_, rfl⟩
          have hv : v < y := by rw [ev]; exact Nat.mod_lt _ (by omega)
          have EP : Hid (p = (hi * 4294967296 + u1) / y) := Lib.hid (by rw [HY.out]; exact HQ1.out)
          have tv : IntKind.u64.wrap (IntKind.u64.wrap (IntKind.u64.wrap ((hi : Int) * 4294967296) + (u1 : Int)) - IntKind.u64.wrap ((p : Int) * (y : Int))) = (v : Int) := by
            have hd := Nat.div_add_mod (hi * 4294967296 + u1) y
            rw [← EP.out, ← ev, Nat.mul_comm] at hd
            rw [← Int.natCast_mul]
            generalize p * y = m at *
            simp only [IntKind.wrap_u64]
            omega
          have EV := Lib.hid ev
          have c0 : (0 : Int) ≤ v := by omega
          have c1 : (v : Int) ≤ 18446744073709551615 := by omega
          have HV2 : Hid (v < 4294967296 * y1 + y0) := Lib.hid (by rw [← HY.out]; exact hv)
          have g5 : p < 4294967296 := by
            have h3 := HU1.out
            rw [EP.out, Nat.div_lt_iff_lt_mul (by omega)]
            omega
          have b5 : (p : Int) ≤ 4294967295 := by omega
          clear g5
          have b6 : (0 : Int) ≤ p := by omega
          have hq2 := Half.start H31.out H32.out HY0.out HU2.out HV2.out
          obtain ⟨Q2, eQ2⟩ : ∃ Q, Q = v / y1 := ⟨_, rfl⟩
          obtain ⟨R2, eR2⟩ : ∃ R, R = v % y1 := ⟨_, rfl⟩
          rw [← eQ2, ← eR2] at hq2
          have eq3 : (v : Int) / (y1 : Int) = (Q2 : Int) := by rw [eQ2]; simp
          have eq4 : IntKind.u64.wrap ((v : Int) - IntKind.u64.wrap ((Q2 : Int) * (y1 : Int))) = (R2 : Int) := by
            have h := hq2.split
            rw [← Int.natCast_mul, IntKind.wrap_u64, IntKind.wrap_u64]
            omega
          have bQ2 : (0 : Int) ≤ Q2 := by omega
          have bQ3 : (Q2 : Int) ≤ 4294967297 := by have := hq2.most; omega
          have HQ02 := Lib.hid hq2
          clear hq2 eQ2 eR2 ev hv
          go_wp2_with fail
          go_loop [18, 16] (fun a b => ∃ z rr : Nat, a = .int .u64 z ∧ b = .int .u64 rr ∧ Hid (Half y1 y0 v u0 z rr)) (fun a _ => (intOf a).toNat)
          case atStart => exact ⟨_, _, rfl, rfl, HQ02⟩
          case round =>
            obtain ⟨z, rr, rfl, rfl, H2⟩ := hrel
            obtain ⟨mm, hmm⟩ : ∃ mm : Nat, mm = z * y0 := ⟨_, rfl⟩
            have rr0 : (0 : Int) ≤ rr := by omega
            have rr1 : (rr : Int) < 4294967296 := by have := H2.out.rest; omega
            have zz0 : (0 : Int) ≤ z := by omega
            have zz1 : (z : Int) ≤ 4294967297 := by have := H2.out.most; omega
            by_cases hbigg : 4294967296 ≤ z
            · have tt0 : (4294967296 : Int) ≤ z := by omega
              have htt : Hid (4294967296 ≤ z ∨ 4294967296 * rr + u0 < z * y0) := Lib.hid (Or.inl hbigg)
              have hqpp : Hid (z = (z - 1) + 1) := Lib.hid (by omega)
              clear hbigg hmm
              by_cases hrr : rr + y1 < 4294967296
              · have tt1 : ¬ (4294967296 : Int) ≤ rr + y1 := by omega
                go_wp2
                go_round
                case rel => exact ⟨z - 1, rr + y1, congrArg (Value.int .u64) (by have := hqpp.out; omega), by go_num, Lib.hid (Half.down (p := z - 1) HU2.out (by rw [← hqpp.out]; exact H2.out) HV2.out (by rw [← hqpp.out]; exact htt.out) hrr)⟩
                case measure => simp [intOf]; have := hqpp.out; omega
              · have tt1 : (4294967296 : Int) ≤ rr + y1 := by omega
                obtain ⟨pp, epp⟩ : ∃ pp, pp = z - 1 := ⟨_, rfl⟩
                have HQ2 := Lib.hid (Half.ends (p := z - 1) HY0.out HU2.out (by rw [← hqpp.out]; exact H2.out) HV2.out (by rw [← hqpp.out]; exact htt.out) (by omega))
                rw [← epp] at HQ2
                have hpp : (z : Int) - 1 = (pp : Int) := by have := hqpp.out; omega
                clear epp
                clear hrr
                have fq := Lib.hid (div64_fin (P := p) (Q := pp) HY.out HLO.out (by have := H31.out; omega) h1 EP.out (by rw [← EV.out]; exact HQ2.out))
                have g7 : pp < 4294967296 := by
                  have h := HV2.out
                  have h3 := HU2.out
                  have h5 := H31.out
                  rw [HQ2.out, Nat.div_lt_iff_lt_mul (by omega)]
                  omega
                have b7 : (pp : Int) ≤ 4294967295 := by omega
                clear g7
                have b8 : (0 : Int) ≤ pp := by omega
                go_wp2
                go_ret2
                exact divpost_mk (by have := fq.out; omega)
            · have tt0 : ¬ (4294967296 : Int) ≤ z := by omega
              have hww : IntKind.u64.wrap ((z : Int) * (y0 : Int)) = (mm : Int) := by
                have h1 : z * y0 ≤ 4294967295 * 4294967295 := Nat.mul_le_mul (by omega) (by have := HY0.out; omega)
                rw [← Int.natCast_mul, ← hmm, IntKind.wrap_u64]
                omega
              by_cases hgtt : 4294967296 * rr + u0 < mm
              · have tt2 : (4294967296 : Int) * rr + u0 < mm := by omega
                have htt : Hid (4294967296 ≤ z ∨ 4294967296 * rr + u0 < z * y0) := Lib.hid (Or.inr (by rw [← hmm]; exact hgtt))
                have hposs := H2.out.pos HU2.out HV2.out htt.out
                have hqpp : Hid (z = (z - 1) + 1) := Lib.hid (by omega)
                have zz2 : (1 : Int) ≤ z := by omega
                clear hbigg hmm hgtt hposs
                by_cases hrr : rr + y1 < 4294967296
                · have tt1 : ¬ (4294967296 : Int) ≤ rr + y1 := by omega
                  go_wp2
                  go_round
                  case rel => exact ⟨z - 1, rr + y1, congrArg (Value.int .u64) (by have := hqpp.out; omega), by go_num, Lib.hid (Half.down (p := z - 1) HU2.out (by rw [← hqpp.out]; exact H2.out) HV2.out (by rw [← hqpp.out]; exact htt.out) hrr)⟩
                  case measure => simp [intOf]; have := hqpp.out; omega
                · have tt1 : (4294967296 : Int) ≤ rr + y1 := by omega
                  obtain ⟨pp, epp⟩ : ∃ pp, pp = z - 1 := ⟨_, rfl⟩
                  have HQ2 := Lib.hid (Half.ends (p := z - 1) HY0.out HU2.out (by rw [← hqpp.out]; exact H2.out) HV2.out (by rw [← hqpp.out]; exact htt.out) (by omega))
                  rw [← epp] at HQ2
                  have hpp : (z : Int) - 1 = (pp : Int) := by have := hqpp.out; omega
                  clear epp
                  clear hrr
                  have fq := Lib.hid (div64_fin (P := p) (Q := pp) HY.out HLO.out (by have := H31.out; omega) h1 EP.out (by rw [← EV.out]; exact HQ2.out))
                  have g7 : pp < 4294967296 := by
                    have h := HV2.out
                    have h3 := HU2.out
                    have h5 := H31.out
                    rw [HQ2.out, Nat.div_lt_iff_lt_mul (by omega)]
                    omega
                  have b7 : (pp : Int) ≤ 4294967295 := by omega
                  clear g7
                  have b8 : (0 : Int) ≤ pp := by omega
                  go_wp2
                  go_ret2
                  exact divpost_mk (by have := fq.out; omega)
              · have tt2 : ¬ (4294967296 : Int) * rr + u0 < mm := by omega
                have HQ2 := Lib.hid (H2.out.fits H31.out H32.out HY0.out (by rw [← hmm]; omega))
                clear hbigg hmm hgtt
                have fq := Lib.hid (div64_fin (P := p) (Q := z) HY.out HLO.out (by have := H31.out; omega) h1 EP.out (by rw [← EV.out]; exact HQ2.out))
                have g7 : z < 4294967296 := by
                  have h := HV2.out
                  have h3 := HU2.out
                  have h5 := H31.out
                  rw [HQ2.out, Nat.div_lt_iff_lt_mul (by omega)]
                  omega
                have b7 : (z : Int) ≤ 4294967295 := by omega
                clear g7
                have b8 : (0 : Int) ≤ z := by omega
                go_wp2
                go_ret2
                exact divpost_mk (by have := fq.out; omega)
      · have t2 : ¬ (4294967296 : Int) * r + u1 < m := by omega
        have HQ1 := Lib.hid (H1.out.fits H31.out H32.out HY0.out (by rw [← hm]; omega))
        clear hbig hm hgt
        obtain ⟨v, ev⟩ : ∃ v, v = (hi * 4294967296 + u1) % y := ⟨_, rfl⟩
        have hv : v < y := by rw [ev]; exact Nat.mod_lt _ (by omega)
        have EP : Hid (q = (hi * 4294967296 + u1) / y) := Lib.hid (by rw [HY.out]; exact HQ1.out)
        have tv : IntKind.u64.wrap (IntKind.u64.wrap (IntKind.u64.wrap ((hi : Int) * 4294967296) + (u1 : Int)) - IntKind.u64.wrap ((q : Int) * (y : Int))) = (v : Int) := by
          have hd := Nat.div_add_mod (hi * 4294967296 + u1) y
          rw [← EP.out, ← ev, Nat.mul_comm] at hd
          rw [← Int.natCast_mul]
          generalize q * y = m at *
          simp only [IntKind.wrap_u64]
          omega
        have EV := Lib.hid ev
        have c0 : (0 : Int) ≤ v := by omega
        have c1 : (v : Int) ≤ 18446744073709551615 := by omega
        have HV2 : Hid (v < 4294967296 * y1 + y0) := Lib.hid (by rw [← HY.out]; exact hv)
        have g5 : q < 4294967296 := by
          have h3 := HU1.out
          rw [EP.out, Nat.div_lt_iff_lt_mul (by omega)]
          omega
        have b5 : (q : Int) ≤ 4294967295 := by omega
        clear g5
        have b6 : (0 : Int) ≤ q := by omega
        have hq2 := Half.start H31.out H32.out HY0.out HU2.out HV2.out
        obtain ⟨Q2, eQ2⟩ : ∃ Q, Q = v / y1 := ⟨_, rfl⟩
        obtain ⟨R2, eR2⟩ : ∃ R, R = v % y1 := ⟨_, rfl⟩
        rw [← eQ2, ← eR2] at hq2
        have eq3 : (v : Int) / (y1 : Int) = (Q2 : Int) := by rw [eQ2]; simp
        have eq4 : IntKind.u64.wrap ((v : Int) - IntKind.u64.wrap ((Q2 : Int) * (y1 : Int))) = (R2 : Int) := by
          have h := hq2.split
          rw [← Int.natCast_mul, IntKind.wrap_u64, IntKind.wrap_u64]
          omega
        have bQ2 : (0 : Int) ≤ Q2 := by omega
        have bQ3 : (Q2 : Int) ≤ 4294967297 := by have := hq2.most; omega
        have HQ02 := Lib.hid hq2
        clear hq2 eQ2 eR2 ev hv
        go_wp2_with fail
        go_loop [18, 16] (fun a b => ∃ z rr : Nat, a = .int .u64 z ∧ b = .int .u64 rr ∧ Hid (Half y1 y0 v u0 z rr)) (fun a _ => (intOf a).toNat)
        case atStart => exact ⟨_, _, rfl, rfl, HQ02⟩
        case round =>
          obtain ⟨z, rr, rfl, rfl, H2⟩ := hrel
          obtain ⟨mm, hmm⟩ : ∃ mm : Nat, mm = z * y0 := ⟨_, rfl⟩
          have rr0 : (0 : Int) ≤ rr := by omega
          have rr1 : (rr : Int) < 4294967296 := by have := H2.out.rest; omega
          have zz0 : (0 : Int) ≤ z := by omega
          have zz1 : (z : Int) ≤ 4294967297 := by have := H2.out.most; omega
          by_cases hbigg : 4294967296 ≤ z
          · have tt0 : (4294967296 : Int) ≤ z := by omega
            have htt : Hid (4294967296 ≤ z ∨ 4294967296 * rr + u0 < z * y0) := Lib.hid (Or.inl hbigg)
            have hqpp : Hid (z = (z - 1) + 1) := Lib.hid (by omega)
            clear hbigg hmm
            by_cases hrr : rr + y1 < 4294967296
            · have tt1 : ¬ (4294967296 : Int) ≤ rr + y1 := by omega
              go_wp2
              go_round
              case rel => exact ⟨z - 1, rr + y1, congrArg (Value.int .u64) (by have := hqpp.out; omega), by go_num, Lib.hid (Half.down (p := z - 1) HU2.out (by rw [← hqpp.out]; exact H2.out) HV2.out (by rw [← hqpp.out]; exact htt.out) hrr)⟩
              case measure => simp [intOf]; have := hqpp.out; omega
            · have tt1 : (4294967296 : Int) ≤ rr + y1 := by omega
              obtain ⟨pp, epp⟩ : ∃ pp, pp = z - 1 := ⟨_, rfl⟩
              have HQ2 := Lib.hid (Half.ends (p := z - 1) HY0.out HU2.out (by rw [← hqpp.out]; exact H2.out) HV2.out (by rw [← hqpp.out]; exact htt.out) (by omega))
              rw [← epp] at HQ2
              have hpp : (z : Int) - 1 = (pp : Int) := by have := hqpp.out; omega
              clear epp
              clear hrr
              have fq := Lib.hid (div64_fin (P := q) (Q := pp) HY.out HLO.out (by have := H31.out; omega) h1 EP.out (by rw [← EV.out]; exact HQ2.out))
              have g7 : pp < 4294967296 := by
                have h := HV2.out
                have h3 := HU2.out
                have h5 := H31.out
                rw [HQ2.out, Nat.div_lt_iff_lt_mul (by omega)]
                omega
              have b7 : (pp : Int) ≤ 4294967295 := by omega
              clear g7
              have b8 : (0 : Int) ≤ pp := by omega
              go_wp2
              go_ret2
              exact divpost_mk (by have := fq.out; omega)
          · have tt0 : ¬ (4294967296 : Int) ≤ z := by omega
            have hww : IntKind.u64.wrap ((z : Int) * (y0 : Int)) = (mm : Int) := by
              have h1 : z * y0 ≤ 4294967295 * 4294967295 := Nat.mul_le_mul (by omega) (by have := HY0.out; omega)
              rw [← Int.natCast_mul, ← hmm, IntKind.wrap_u64]
              omega
            by_cases hgtt : 4294967296 * rr + u0 < mm
            · have tt2 : (4294967296 : Int) * rr + u0 < mm := by omega
              have htt : Hid (4294967296 ≤ z ∨ 4294967296 * rr + u0 < z * y0) := Lib.hid (Or.inr (by rw [← hmm]; exact hgtt))
              have hposs := H2.out.pos HU2.out HV2.out htt.out
              have hqpp : Hid (z = (z - 1) + 1) := Lib.hid (by omega)
              have zz2 : (1 : Int) ≤ z := by omega
              clear hbigg hmm hgtt hposs
              by_cases hrr : rr + y1 < 4294967296
              · have tt1 : ¬ (4294967296 : Int) ≤ rr + y1 := by omega
                go_wp2
                go_round
                case rel => exact ⟨z - 1, rr + y1, congrArg (Value.int .u64) (by have := hqpp.out; omega), by go_num, Lib.hid (Half.down (p := z - 1) HU2.out (by rw [← hqpp.out]; exact H2.out) HV2.out (by rw [← hqpp.out]; exact htt.out) hrr)⟩
                case measure => simp [intOf]; have := hqpp.out; omega
              · have tt1 : (4294967296 : Int) ≤ rr + y1 := by omega
                obtain ⟨pp, epp⟩ : ∃ pp, pp = z - 1 := ⟨_, rfl⟩
                have HQ2 := Lib.hid (Half.ends (p := z - 1) HY0.out HU2.out (by rw [← hqpp.out]; exact H2.out) HV2.out (by rw [← hqpp.out]; exact htt.out) (by omega))
                rw [← epp] at HQ2
                have hpp : (z : Int) - 1 = (pp : Int) := by have := hqpp.out; omega
                clear epp
                clear hrr
                have fq := Lib.hid (div64_fin (P := q) (Q := pp) HY.out HLO.out (by have := H31.out; omega) h1 EP.out (by rw [← EV.out]; exact HQ2.out))
                have g7 : pp < 4294967296 := by
                  have h := HV2.out
                  have h3 := HU2.out
                  have h5 := H31.out
                  rw [HQ2.out, Nat.div_lt_iff_lt_mul (by omega)]
                  omega
                have b7 : (pp : Int) ≤ 4294967295 := by omega
                clear g7
                have b8 : (0 : Int) ≤ pp := by omega
                go_wp2
                go_ret2
                exact divpost_mk (by have := fq.out; omega)
            · have tt2 : ¬ (4294967296 : Int) * rr + u0 < mm := by omega
              have HQ2 := Lib.hid (H2.out.fits H31.out H32.out HY0.out (by rw [← hmm]; omega))
              clear hbigg hmm hgtt
              have fq := Lib.hid (div64_fin (P := q) (Q := z) HY.out HLO.out (by have := H31.out; omega) h1 EP.out (by rw [← EV.out]; exact HQ2.out))
              have g7 : z < 4294967296 := by
                have h := HV2.out
                have h3 := HU2.out
                have h5 := H31.out
                rw [HQ2.out, Nat.div_lt_iff_lt_mul (by omega)]
                omega
              have b7 : (z : Int) ≤ 4294967295 := by omega
              clear g7
              have b8 : (0 : Int) ≤ z := by omega
              go_wp2
              go_ret2
              exact divpost_mk (by have := fq.out; omega)

end Go.Proofs.Ytfgefifplmhopaa

/- What word.shiftDown comes to, with noughts or with ones from above. -/
import Derived.Test.YthfadinocadhaaaDoorDown
import Derived.Test.YthfadinocadhaaaDoorShls
namespace Go.Proofs.YthfadinocadhaaaDoor
open Go.RowKit

/-- Both halves of all ones, shifted down alike, are all ones together. -/
theorem comp_down {p q s t : Nat} (hp : p < 18446744073709551616) (hq : q < 18446744073709551616) (h : s + t = 64) :
    p / 2 ^ s + q * 2 ^ t % 18446744073709551616 + ((18446744073709551615 - p) / 2 ^ s + (18446744073709551615 - q) * 2 ^ t % 18446744073709551616) = 18446744073709551615 := by
  have hD := pow_split h
  have hS : 0 < 2 ^ s := Nat.two_pow_pos s
  have hT : 0 < 2 ^ t := Nat.two_pow_pos t
  have e : ∀ y, y * 2 ^ t % 18446744073709551616 = 2 ^ t * (y % 2 ^ s) := fun y => by
    rw [← hD, Nat.mul_comm (2 ^ s), Nat.mul_comm y, Nat.mul_mod_mul_left]
  rw [e, e]
  -- p and what it lacks, by 2^s
  have d1 : (18446744073709551615 - p) / 2 ^ s = 2 ^ t - 1 - p / 2 ^ s := by
    have hp' : p < 2 ^ s * 2 ^ t := by omega
    have h2 : 18446744073709551615 - p = 2 ^ s * (2 ^ t - 1 - p / 2 ^ s) + (2 ^ s - 1 - p % 2 ^ s) := by
      have hm := Nat.div_add_mod p (2 ^ s)
      have hl : p / 2 ^ s < 2 ^ t := by rw [Nat.div_lt_iff_lt_mul hS, Nat.mul_comm]; exact hp'
      have hr := Nat.mod_lt p hS
      have : 2 ^ s * (2 ^ t - 1 - p / 2 ^ s) + 2 ^ s * (p / 2 ^ s) + 2 ^ s = 2 ^ s * 2 ^ t := by
        rw [← Nat.mul_add, ← Nat.mul_succ]; congr 1; omega
      omega
    have hr := Nat.mod_lt p hS
    rw [h2, Nat.mul_add_div hS, Nat.div_eq_of_lt (show 2 ^ s - 1 - p % 2 ^ s < 2 ^ s by omega), Nat.add_zero]
  have d2 : (18446744073709551615 - q) % 2 ^ s = 2 ^ s - 1 - q % 2 ^ s := by
    have hq' : q < 2 ^ s * 2 ^ t := by omega
    have h2 : 18446744073709551615 - q = 2 ^ s * (2 ^ t - 1 - q / 2 ^ s) + (2 ^ s - 1 - q % 2 ^ s) := by
      have hm := Nat.div_add_mod q (2 ^ s)
      have hl : q / 2 ^ s < 2 ^ t := by rw [Nat.div_lt_iff_lt_mul hS, Nat.mul_comm]; exact hq'
      have hr := Nat.mod_lt q hS
      have : 2 ^ s * (2 ^ t - 1 - q / 2 ^ s) + 2 ^ s * (q / 2 ^ s) + 2 ^ s = 2 ^ s * 2 ^ t := by
        rw [← Nat.mul_add, ← Nat.mul_succ]; congr 1; omega
      omega
    have hr := Nat.mod_lt q hS
    rw [h2, Nat.mul_add_mod, Nat.mod_eq_of_lt (by omega)]
  rw [d1, d2]
  have hl : p / 2 ^ s < 2 ^ t := by rw [Nat.div_lt_iff_lt_mul hS, Nat.mul_comm, hD]; exact hp
  have hr := Nat.mod_lt q hS
  have : 2 ^ t * (q % 2 ^ s) + 2 ^ t * (2 ^ s - 1 - q % 2 ^ s) + 2 ^ t = 2 ^ s * 2 ^ t := by
    rw [← Nat.mul_add, ← Nat.mul_succ, Nat.mul_comm (2 ^ s)]; congr 1; omega
  omega

theorem down_lt {p q s t : Nat} (hp : p < 18446744073709551616) (h : s + t = 64) : p / 2 ^ s + q * 2 ^ t % 18446744073709551616 < 18446744073709551616 := by
  have hD := pow_split h
  have hS : 0 < 2 ^ s := Nat.two_pow_pos s
  have hps : p / 2 ^ s < 2 ^ t := by rw [Nat.div_lt_iff_lt_mul hS, Nat.mul_comm, hD]; exact hp
  have e : q * 2 ^ t % 18446744073709551616 = 2 ^ t * (q % 2 ^ s) := by
    rw [← hD, Nat.mul_comm (2 ^ s), Nat.mul_comm q, Nat.mul_mod_mul_left]
  have hr := Nat.mod_lt q hS
  have : 2 ^ t * (q % 2 ^ s) + 2 ^ t ≤ 2 ^ s * 2 ^ t := by
    rw [← Nat.mul_succ, Nat.mul_comm (2 ^ s)]; exact Nat.mul_le_mul_left _ hr
  omega

/-- The walk, by numbers. -/
theorem down_parts (k0 k1 k2 k3 a0 a1 a2 a3 f p0 p1 p2 p3 p4 s t : Nat) (wh j0 j1 j2 j3 j4 : Int) (hst : s + t = 64) (hs : s < 64)
    (u0 : p0 < 18446744073709551616) (u1 : p1 < 18446744073709551616) (u2 : p2 < 18446744073709551616) (u3 : p3 < 18446744073709551616)
    (e0 : IntKind.i64.wrap wh = j0) (e1 : IntKind.i64.wrap (1 + wh) = j1) (e2 : IntKind.i64.wrap (2 + wh) = j2) (e3 : IntKind.i64.wrap (3 + wh) = j3)
    (g0 : IntKind.i64.wrap (j0 + 1) = j1) (g1 : IntKind.i64.wrap (j1 + 1) = j2) (g2 : IntKind.i64.wrap (j2 + 1) = j3) (g3 : IntKind.i64.wrap (j3 + 1) = j4) (w : World)
    (hC : ∀ (b c : Nat) (W : World), W.cell? ⟨b, 0, none⟩ = some (.int .u64 a0) → W.cell? ⟨b, 1, none⟩ = some (.int .u64 a1) → W.cell? ⟨b, 2, none⟩ = some (.int .u64 a2) → W.cell? ⟨b, 3, none⟩ = some (.int .u64 a3) → W.cell? ⟨c, 0, none⟩ = some (.int .u64 f) →
      (Calls Tryd.prog 98 #[.int .i64 j0, .pointer (some ⟨b, 0, none⟩), .pointer (some ⟨c, 0, none⟩)] W fun e w' => e = .returned (.int .u64 p0) ∧ w' = W) ∧
      (Calls Tryd.prog 98 #[.int .i64 j1, .pointer (some ⟨b, 0, none⟩), .pointer (some ⟨c, 0, none⟩)] W fun e w' => e = .returned (.int .u64 p1) ∧ w' = W) ∧
      (Calls Tryd.prog 98 #[.int .i64 j2, .pointer (some ⟨b, 0, none⟩), .pointer (some ⟨c, 0, none⟩)] W fun e w' => e = .returned (.int .u64 p2) ∧ w' = W) ∧
      (Calls Tryd.prog 98 #[.int .i64 j3, .pointer (some ⟨b, 0, none⟩), .pointer (some ⟨c, 0, none⟩)] W fun e w' => e = .returned (.int .u64 p3) ∧ w' = W) ∧
      (Calls Tryd.prog 98 #[.int .i64 j4, .pointer (some ⟨b, 0, none⟩), .pointer (some ⟨c, 0, none⟩)] W fun e w' => e = .returned (.int .u64 p4) ∧ w' = W))
    (hS : ∀ w, Calls Tryd.prog 80 #[.agg #[.int .u64 k0, .int .u64 k1, .int .u64 k2, .int .u64 k3]] w fun e w' => e = .returned (.tuple #[.int .i64 wh, .int .i64 s]) ∧ Below w.heap.size w w') :
    Calls Tryd.prog 83 #[.agg #[.int .u64 k0, .int .u64 k1, .int .u64 k2, .int .u64 k3], .agg #[.int .u64 a0, .int .u64 a1, .int .u64 a2, .int .u64 a3], .int .u64 f] w fun e w' =>
      e = .returned (wv (n4 (p0 / 2 ^ s + p1 * 2 ^ t % 18446744073709551616) (p1 / 2 ^ s + p2 * 2 ^ t % 18446744073709551616) (p2 / 2 ^ s + p3 * 2 ^ t % 18446744073709551616) (p3 / 2 ^ s + p4 * 2 ^ t % 18446744073709551616))) ∧ Below w.heap.size w w' := by
  have ht : IntKind.i64.wrap (64 - (s : Int)) = (t : Int) := by rw [IntKind.wrap_i64]; omega
  have h := down_walk k0 k1 k2 k3 a0 a1 a2 a3 f p0 p1 p2 p3 p4 s t wh j0 j1 j2 j3 j4 (by omega) (by omega) ht (by omega) e0 e1 e2 e3 g0 g1 g2 g3 w hC hS
  rw [cmb_down (p := p0) (q := p1) u0 hst, cmb_down (p := p1) (q := p2) u1 hst, cmb_down (p := p2) (q := p3) u2 hst, cmb_down (p := p3) (q := p4) u3 hst,
    ← wv_n4 (down_lt u0 hst) (down_lt u1 hst) (down_lt u2 hst) (down_lt u3 hst)] at h
  exact h

/-- What the parts come to at each distance: a is a word's part or, above them, f. -/
def sel (a0 a1 a2 a3 f : Nat) (i : Nat) : Nat := match i with | 0 => a0 | 1 => a1 | 2 => a2 | 3 => a3 | _ => f

theorem down_sel (k x m f : Nat) (a0 a1 a2 a3 : Nat) (hf : f < 18446744073709551616) (u0 : a0 < 18446744073709551616) (u1 : a1 < 18446744073709551616) (u2 : a2 < 18446744073709551616) (u3 : a3 < 18446744073709551616) (hm : m ≤ 256)
    (ea : wv x = .agg #[.int .u64 a0, .int .u64 a1, .int .u64 a2, .int .u64 a3])
    (hS : ∀ w, Calls Tryd.prog 80 #[wv k] w fun e w' => e = .returned (.tuple #[.int .i64 ((m / 64 : Nat) : Int), .int .i64 ((m % 64 : Nat) : Int)]) ∧ Below w.heap.size w w') (w : World) :
    Calls Tryd.prog 83 #[wv k, wv x, .int .u64 f] w fun e w' =>
      e = .returned (wv (n4 (sel a0 a1 a2 a3 f (m / 64) / 2 ^ (m % 64) + sel a0 a1 a2 a3 f (m / 64 + 1) * 2 ^ (64 - m % 64) % 18446744073709551616) (sel a0 a1 a2 a3 f (m / 64 + 1) / 2 ^ (m % 64) + sel a0 a1 a2 a3 f (m / 64 + 2) * 2 ^ (64 - m % 64) % 18446744073709551616)
        (sel a0 a1 a2 a3 f (m / 64 + 2) / 2 ^ (m % 64) + sel a0 a1 a2 a3 f (m / 64 + 3) * 2 ^ (64 - m % 64) % 18446744073709551616) (sel a0 a1 a2 a3 f (m / 64 + 3) / 2 ^ (m % 64) + f * 2 ^ (64 - m % 64) % 18446744073709551616))) ∧ Below w.heap.size w w' := by
  obtain ⟨k0, k1, k2, k3, -, -, -, -, ek, -⟩ := wv_parts k
  rw [ek] at hS
  rw [ek, ea]
  have hst : m % 64 + (64 - m % 64) = 64 := by omega
  have hs : m % 64 < 64 := by omega
  have hw : m / 64 = 0 ∨ m / 64 = 1 ∨ m / 64 = 2 ∨ m / 64 = 3 ∨ m / 64 = 4 := by omega
  have past := fun (i : Int) (hi : 4 ≤ i) (b c : Nat) (W : World) (h : W.cell? ⟨c, 0, none⟩ = some (.int .u64 f)) => down_past i b c _ hi W h
  rcases hw with h | h | h | h | h
  all_goals rw [h] at hS ⊢
  · exact down_parts k0 k1 k2 k3 a0 a1 a2 a3 f a0 a1 a2 a3 f (m % 64) (64 - m % 64) 0 0 1 2 3 4 hst hs u0 u1 u2 u3 (by decide) (by decide) (by decide) (by decide) (by decide) (by decide) (by decide) (by decide) w
      (fun b c W c0 c1 c2 c3 cf => ⟨down_at 0 b c _ (by omega) (by omega) W c0, down_at 1 b c _ (by omega) (by omega) W c1, down_at 2 b c _ (by omega) (by omega) W c2, down_at 3 b c _ (by omega) (by omega) W c3, past 4 (by omega) b c W cf⟩) hS
  · exact down_parts k0 k1 k2 k3 a0 a1 a2 a3 f a1 a2 a3 f f (m % 64) (64 - m % 64) 1 1 2 3 4 5 hst hs u1 u2 u3 hf (by decide) (by decide) (by decide) (by decide) (by decide) (by decide) (by decide) (by decide) w
      (fun b c W c0 c1 c2 c3 cf => ⟨down_at 1 b c _ (by omega) (by omega) W c1, down_at 2 b c _ (by omega) (by omega) W c2, down_at 3 b c _ (by omega) (by omega) W c3, past 4 (by omega) b c W cf, past 5 (by omega) b c W cf⟩) hS
  · exact down_parts k0 k1 k2 k3 a0 a1 a2 a3 f a2 a3 f f f (m % 64) (64 - m % 64) 2 2 3 4 5 6 hst hs u2 u3 hf hf (by decide) (by decide) (by decide) (by decide) (by decide) (by decide) (by decide) (by decide) w
      (fun b c W c0 c1 c2 c3 cf => ⟨down_at 2 b c _ (by omega) (by omega) W c2, down_at 3 b c _ (by omega) (by omega) W c3, past 4 (by omega) b c W cf, past 5 (by omega) b c W cf, past 6 (by omega) b c W cf⟩) hS
  · exact down_parts k0 k1 k2 k3 a0 a1 a2 a3 f a3 f f f f (m % 64) (64 - m % 64) 3 3 4 5 6 7 hst hs u3 hf hf hf (by decide) (by decide) (by decide) (by decide) (by decide) (by decide) (by decide) (by decide) w
      (fun b c W c0 c1 c2 c3 cf => ⟨down_at 3 b c _ (by omega) (by omega) W c3, past 4 (by omega) b c W cf, past 5 (by omega) b c W cf, past 6 (by omega) b c W cf, past 7 (by omega) b c W cf⟩) hS
  · exact down_parts k0 k1 k2 k3 a0 a1 a2 a3 f f f f f f (m % 64) (64 - m % 64) 4 4 5 6 7 8 hst hs hf hf hf hf (by decide) (by decide) (by decide) (by decide) (by decide) (by decide) (by decide) (by decide) w
      (fun b c W c0 c1 c2 c3 cf => ⟨past 4 (by omega) b c W cf, past 5 (by omega) b c W cf, past 6 (by omega) b c W cf, past 7 (by omega) b c W cf, past 8 (by omega) b c W cf⟩) hS

theorem n4_sel (a0 a1 a2 a3 : Nat) (u0 : a0 < 18446744073709551616) (u1 : a1 < 18446744073709551616) (u2 : a2 < 18446744073709551616) (u3 : a3 < 18446744073709551616) (i : Nat) (hi : i ≤ 4) :
    n4 (sel a0 a1 a2 a3 0 i) (sel a0 a1 a2 a3 0 (i + 1)) (sel a0 a1 a2 a3 0 (i + 2)) (sel a0 a1 a2 a3 0 (i + 3)) = n4 a0 a1 a2 a3 / 2 ^ (64 * i) := by
  have hw : i = 0 ∨ i = 1 ∨ i = 2 ∨ i = 3 ∨ i = 4 := by omega
  rcases hw with rfl | rfl | rfl | rfl | rfl <;> simp only [sel, Nat.reduceMul, Nat.reducePow, Nat.reduceAdd] <;> unfold n4 <;> omega

-- WHAT shiftDown COMES TO, noughts from above.
theorem down0_any (k x : Nat) (w : World) :
    Calls Tryd.prog 83 #[wv k, wv x, .int .u64 0] w fun e w' => e = .returned (wv (x % 115792089237316195423570985008687907853269984665640564039457584007913129639936 / 2 ^ min (k % 115792089237316195423570985008687907853269984665640564039457584007913129639936) 256)) ∧ Below w.heap.size w w' := by
  have hS := fun w => steps_any k w
  obtain ⟨a0, a1, a2, a3, u0, u1, u2, u3, ea, na⟩ := wv_parts x
  generalize hm : min (k % 115792089237316195423570985008687907853269984665640564039457584007913129639936) 256 = m at *
  have hm256 : m ≤ 256 := by omega
  clear hm
  have h := down_sel k x m 0 a0 a1 a2 a3 (by omega) u0 u1 u2 u3 hm256 ea hS w
  rw [n4_down _ _ _ _ 0 (show m % 64 + (64 - m % 64) = 64 by omega), n4_sel a0 a1 a2 a3 u0 u1 u2 u3 _ (by omega), na, Nat.div_div_eq_div_mul, ← Nat.pow_add, show 64 * (m / 64) + m % 64 = m by omega, Nat.zero_mul] at h
  exact h

theorem n4_comp {c0 c1 c2 c3 d0 d1 d2 d3 : Nat} (h0 : c0 + d0 = 18446744073709551615) (h1 : c1 + d1 = 18446744073709551615) (h2 : c2 + d2 = 18446744073709551615) (h3 : c3 + d3 = 18446744073709551615) : n4 c0 c1 c2 c3 = 115792089237316195423570985008687907853269984665640564039457584007913129639935 - n4 d0 d1 d2 d3 := by unfold n4; omega
theorem sel_comp (a0 a1 a2 a3 i : Nat) (u0 : a0 < 18446744073709551616) (u1 : a1 < 18446744073709551616) (u2 : a2 < 18446744073709551616) (u3 : a3 < 18446744073709551616) : sel a0 a1 a2 a3 18446744073709551615 i < 18446744073709551616 ∧ 18446744073709551615 - sel a0 a1 a2 a3 18446744073709551615 i = sel (18446744073709551615 - a0) (18446744073709551615 - a1) (18446744073709551615 - a2) (18446744073709551615 - a3) 0 i := by
  unfold sel
  split <;> omega

-- WHAT shiftDown COMES TO, ones from above.
theorem down1_any (k x : Nat) (w : World) :
    Calls Tryd.prog 83 #[wv k, wv x, .int .u64 18446744073709551615] w fun e w' => e = .returned (wv (115792089237316195423570985008687907853269984665640564039457584007913129639935 - (115792089237316195423570985008687907853269984665640564039457584007913129639935 - x % 115792089237316195423570985008687907853269984665640564039457584007913129639936) / 2 ^ min (k % 115792089237316195423570985008687907853269984665640564039457584007913129639936) 256)) ∧ Below w.heap.size w w' := by
  have hS := fun w => steps_any k w
  obtain ⟨a0, a1, a2, a3, u0, u1, u2, u3, ea, na⟩ := wv_parts x
  generalize hm : min (k % 115792089237316195423570985008687907853269984665640564039457584007913129639936) 256 = m at *
  have hm256 : m ≤ 256 := by omega
  clear hm
  have h := down_sel k x m 18446744073709551615 a0 a1 a2 a3 (by omega) u0 u1 u2 u3 hm256 ea hS w
  have hst : m % 64 + (64 - m % 64) = 64 := by omega
  have S := fun i => sel_comp a0 a1 a2 a3 i u0 u1 u2 u3
  have C := fun i j => comp_down (p := sel a0 a1 a2 a3 18446744073709551615 i) (q := sel a0 a1 a2 a3 18446744073709551615 j) (S i).1 (S j).1 hst
  have C4 := comp_down (p := sel a0 a1 a2 a3 18446744073709551615 (m / 64 + 3)) (q := 18446744073709551615) (S _).1 (by omega) hst
  rw [n4_comp (C _ _) (C _ _) (C _ _) C4] at h
  simp only [(S _).2] at h
  rw [show 18446744073709551615 - 18446744073709551615 = 0 by omega] at h
  rw [n4_down _ _ _ _ 0 hst, n4_sel _ _ _ _ (by omega) (by omega) (by omega) (by omega) _ (by omega), Nat.div_div_eq_div_mul, ← Nat.pow_add, show 64 * (m / 64) + m % 64 = m by omega, Nat.zero_mul,
    show n4 (18446744073709551615 - a0) (18446744073709551615 - a1) (18446744073709551615 - a2) (18446744073709551615 - a3) = 115792089237316195423570985008687907853269984665640564039457584007913129639935 - x % 115792089237316195423570985008687907853269984665640564039457584007913129639936 by rw [← na]; unfold n4; omega] at h
  exact h
end Go.Proofs.YthfadinocadhaaaDoor

/- What word.Decimal comes to, called with any word. (With it, merged: DivAny · Divs · Ring · Cmp · Lives · Alive · Rings · DigS · WEq · Tie1 · Many · QL · WHelp · FmtU · Decimal.) -/
import Derived.Test.YtmhgnlngcjckbaaDoorZ5
import Derived.Test.YtmhgnlngcjckbaaDoorZ4
import Derived.Test.YtmhgnlngcjckbaaDoorZ3
import Derived.Test.YtmhgnlngcjckbaaDoorZ1
import Derived.Deep.RegionWith
import Derived.Deep.QuietTactic
import Derived.BigQuiet
import Derived.Test.YtmhgnlngcjckbaaDoorZ2
import Derived.Lib.ItoaMem
import Derived.Lib.OwnKind
import Derived.WalkKit
import Derived.Lib.Hide
namespace Go.Proofs.YtmhgnlngcjckbaaDoor
open Go.RowKit

/-- A number's part. -/
def pd (x j : Nat) : Nat := x / 18446744073709551616 ^ j % 18446744073709551616
theorem pd_lt (x j : Nat) : pd x j < 18446744073709551616 := Nat.mod_lt _ (by omega)
theorem val_pd (x : Nat) : ∀ n, val (pd x) n = x % 18446744073709551616 ^ n
  | 0 => by simp [val, Nat.mod_one]
  | n + 1 => by rw [val, val_pd x n, Nat.pow_succ, Nat.mod_mul]; rfl
theorem val_one (f : Nat → Nat) : val f 1 = f 0 := by simp [val]
theorem pd_val {f : Nat → Nat} {n : Nat} (h : ∀ j, j < n → f j < 18446744073709551616) (j : Nat) (hj : j < n) : pd (val f n) j = f j := by
  obtain ⟨e, rfl⟩ : ∃ e, n = j + (1 + e) := ⟨n - j - 1, by omega⟩
  have h1 := val_lt (f := f) (n := j) (fun i hi => h i (by omega))
  have h2 := h j (by omega)
  unfold pd
  rw [val_split, val_split (fun i => f (j + i)) 1 e, val_one, Nat.add_comm, Nat.mul_add_div (Nat.pow_pos (by omega)), Nat.div_eq_of_lt h1, Nat.pow_one]
  simp only [Nat.add_zero]
  omega
theorem pd_top {x n : Nat} (h : x < 18446744073709551616 ^ n) : pd x n = 0 := by unfold pd; rw [Nat.div_eq_of_lt h]
theorem wv_row (x : Nat) : wv x = .agg #[.int .u64 (pd x 0 : Nat), .int .u64 (pd x 1 : Nat), .int .u64 (pd x 2 : Nat), .int .u64 (pd x 3 : Nat)] := by
  unfold wv pd
  simp only [Nat.pow_zero, Nat.div_one, Nat.pow_one, show 18446744073709551616 ^ 2 = 340282366920938463463374607431768211456 by rfl, show 18446744073709551616 ^ 3 = 6277101735386680763835789423207666416102355444464034512896 by rfl]
theorem dv_row (x : Nat) : dv x = .agg #[.int .u64 (pd x 0 : Nat), .int .u64 (pd x 1 : Nat), .int .u64 (pd x 2 : Nat), .int .u64 (pd x 3 : Nat), .int .u64 (pd x 4 : Nat), .int .u64 (pd x 5 : Nat), .int .u64 (pd x 6 : Nat), .int .u64 (pd x 7 : Nat)] := by
  unfold dv pd
  simp only [Nat.pow_zero, Nat.div_one, Nat.pow_one, show 18446744073709551616 ^ 2 = 340282366920938463463374607431768211456 by rfl, show 18446744073709551616 ^ 3 = 6277101735386680763835789423207666416102355444464034512896 by rfl, show 18446744073709551616 ^ 4 = 115792089237316195423570985008687907853269984665640564039457584007913129639936 by rfl, show 18446744073709551616 ^ 5 = 2135987035920910082395021706169552114602704522356652769947041607822219725780640550022962086936576 by rfl, show 18446744073709551616 ^ 6 = 39402006196394479212279040100143613805079739270465446667948293404245721771497210611414266254884915640806627990306816 by rfl, show 18446744073709551616 ^ 7 = 726838724295606890549323807888004534353641360687318060281490199180639288113397923326191050713763565560762521606266177933534601628614656 by rfl]

theorem raise_num {A s t : Nat} (h : s + t = 64) (j : Nat) : pd A (j + 1) * 2 ^ s % 18446744073709551616 + pd A j / 2 ^ t = pd (A * 2 ^ s) (j + 1) := by
  have hD := pow_split h
  have hc := cmb_lt (p := pd A (j + 1)) (q := pd A j) (pd_lt A j) h
  have hS := Nat.two_pow_pos s
  have hT := Nat.two_pow_pos t
  have e1 : A * 2 ^ s / 18446744073709551616 ^ (j + 1) = A / 18446744073709551616 ^ j / 2 ^ t := by
    rw [Nat.pow_succ, ← hD, Nat.mul_comm (2 ^ s), ← Nat.mul_assoc, Nat.mul_div_mul_right _ _ hS, Nat.div_div_eq_div_mul]
  have e2 : A / 18446744073709551616 ^ (j + 1) = A / 18446744073709551616 ^ j / 18446744073709551616 := by rw [Nat.pow_succ, Nat.div_div_eq_div_mul]
  unfold pd at hc ⊢
  rw [e2, Nat.mod_mul_mod] at hc
  rw [e1, e2, Nat.mod_mul_mod]
  generalize A / 18446744073709551616 ^ j = Y at *
  have e3 : Y / 2 ^ t = Y / 18446744073709551616 * 2 ^ s + Y % 18446744073709551616 / 2 ^ t := by
    have h1 := Nat.div_add_mod Y 18446744073709551616
    have h2 : Y / 2 ^ t = (18446744073709551616 * (Y / 18446744073709551616) + Y % 18446744073709551616) / 2 ^ t := by rw [h1]
    rw [h2]
    generalize Y % 18446744073709551616 = y
    generalize Y / 18446744073709551616 = Z
    rw [← hD, Nat.mul_comm (2 ^ s), Nat.mul_assoc, Nat.mul_add_div hT, Nat.mul_comm]
  rw [e3, Nat.add_mod, Nat.mod_eq_of_lt (a := Y % 18446744073709551616 / 2 ^ t) (Nat.lt_of_le_of_lt (Nat.div_le_self _ _) (Nat.mod_lt _ (by omega)))]
  exact (Nat.mod_eq_of_lt hc).symm
theorem raise_low (A s : Nat) : pd A 0 * 2 ^ s % 18446744073709551616 = pd (A * 2 ^ s) 0 := by
  unfold pd
  rw [Nat.pow_zero, Nat.div_one, Nat.div_one, Nat.mod_mul_mod]

theorem raise_any (A s : Nat) (hs : s < 64) (hA : A < 18446744073709551616 ^ 8) (w : World) : Calls Tryd.prog 34 #[.agg #[.int .u64 (pd A 0 : Nat), .int .u64 (pd A 1 : Nat), .int .u64 (pd A 2 : Nat), .int .u64 (pd A 3 : Nat), .int .u64 (pd A 4 : Nat), .int .u64 (pd A 5 : Nat), .int .u64 (pd A 6 : Nat), .int .u64 (pd A 7 : Nat)], .int .i64 (s : Nat)] w fun e w' => e = .returned (.agg #[.int .u64 (pd (A * 2 ^ s) 0 : Nat), .int .u64 (pd (A * 2 ^ s) 1 : Nat), .int .u64 (pd (A * 2 ^ s) 2 : Nat), .int .u64 (pd (A * 2 ^ s) 3 : Nat), .int .u64 (pd (A * 2 ^ s) 4 : Nat), .int .u64 (pd (A * 2 ^ s) 5 : Nat), .int .u64 (pd (A * 2 ^ s) 6 : Nat), .int .u64 (pd (A * 2 ^ s) 7 : Nat), .int .u64 (pd (A * 2 ^ s) 8 : Nat)]) ∧ Below w.heap.size w w' := by
  obtain ⟨t, ht⟩ : ∃ t, s + t = 64 := ⟨64 - s, by omega⟩
  have h := raise_walk (pd A 0) (pd A 1) (pd A 2) (pd A 3) (pd A 4) (pd A 5) (pd A 6) (pd A 7) s t (by omega) (by omega) (by omega) w
  have e : ∀ j, bits .or .u64 ((pd A j : Int) / 2 ^ t) (IntKind.u64.wrap ((pd A (j + 1) : Int) * 2 ^ s)) = ((pd (A * 2 ^ s) (j + 1) : Nat) : Int) := fun j => by
    rw [cmb_down (p := pd A j) (q := pd A (j + 1)) (s := t) (t := s) (pd_lt _ _) (by omega), Nat.add_comm, raise_num ht]
  have e0 : bits .or .u64 0 (IntKind.u64.wrap ((pd A 0 : Int) * 2 ^ s)) = ((pd (A * 2 ^ s) 0 : Nat) : Int) := by
    have := cmb_down (p := 0) (q := pd A 0) (s := t) (t := s) (by omega) (by omega)
    rw [Nat.zero_div, Nat.zero_add, raise_low] at this
    have h0 : (((0 : Nat) : Int) / 2 ^ t) = 0 := by simp
    rwa [h0] at this
  have e8 : (pd A 7 : Int) / 2 ^ t = ((pd (A * 2 ^ s) 8 : Nat) : Int) := by
    rw [← raise_num ht 7, pd_top hA, Nat.zero_mul, Nat.zero_mod, Nat.zero_add]; simp
  rw [e0, e 0, e 1, e 2, e 3, e 4, e 5, e 6, e8] at h
  exact h

set_option maxRecDepth 100000 in
set_option maxHeartbeats 2000000 in
theorem divide_zero (A : Nat) (w : World) : Calls Tryd.prog 18 #[.agg #[.int .u64 (pd A 0 : Nat), .int .u64 (pd A 1 : Nat), .int .u64 (pd A 2 : Nat), .int .u64 (pd A 3 : Nat), .int .u64 (pd A 4 : Nat), .int .u64 (pd A 5 : Nat), .int .u64 (pd A 6 : Nat), .int .u64 (pd A 7 : Nat)], .agg #[.int .u64 0, .int .u64 0, .int .u64 0, .int .u64 0]] w fun e w' => e = .returned (.tuple #[.agg #[.int .u64 0, .int .u64 0, .int .u64 0, .int .u64 0, .int .u64 0, .int .u64 0, .int .u64 0, .int .u64 0], .agg #[.int .u64 0, .int .u64 0, .int .u64 0, .int .u64 0]]) ∧ Below w.heap.size w w' := by
  have hp : ∀ (B : Nat) (w : World), w.cell? ⟨B, 0, none⟩ = some (.int .u64 0) → w.cell? ⟨B, 1, none⟩ = some (.int .u64 0) → w.cell? ⟨B, 2, none⟩ = some (.int .u64 0) → w.cell? ⟨B, 3, none⟩ = some (.int .u64 0) → Calls Tryd.prog 31 #[.slice (some ⟨B, 0, none⟩) 4 4] w fun e w' => e = .returned (.int .i64 0) ∧ w = w' := fun B w c0 c1 c2 c3 =>
    parts_any B 0 4 4 (fun _ => 0) (by omega) w (upto4 (P := fun j => w.cell? ⟨B, 0 + j, none⟩ = some (.int .u64 0)) c0 c1 c2 c3)
  go_enter Tryd.func18, Tryd.ntmps18
  go_wp2_with fail
  refine (hp (w.heap.size + 1) _ (by go_cell) (by go_cell) (by go_cell) (by go_cell)).mono ?_
  rintro e w' ⟨rfl, rfl⟩
  go_wp2
  go_returns
  exact ⟨rfl, by go_grown⟩

theorem top_part {B n : Nat} (hB : B ≠ 0) (h4 : B < 18446744073709551616 ^ 4) (hn : n = np (pd B) 4) : ∃ k, k ≤ 3 ∧ n = k + 1 ∧ pd B k ≠ 0 ∧ B < 18446744073709551616 ^ (k + 1) ∧ B = val (pd B) (k + 1) := by
  obtain ⟨h1, h2, h3⟩ := np_spec (pd B) 4
  have hv : val (pd B) 4 = B := by rw [val_pd, Nat.mod_eq_of_lt h4]
  have hn0 : 0 < np (pd B) 4 := by
    rcases Nat.eq_zero_or_pos (np (pd B) 4) with h | h
    · rw [h] at h2
      have := val_zero (f := pd B) 4 (fun j hj => h2 j (by omega) hj)
      omega
    · exact h
  refine ⟨np (pd B) 4 - 1, by omega, by omega, h3 hn0, ?_, ?_⟩
  · have := val_lt (f := pd B) (n := np (pd B) 4) (fun j _ => pd_lt _ _)
    rw [← val_top h1 h2, hv] at this
    rwa [show np (pd B) 4 - 1 + 1 = np (pd B) 4 by omega]
  · rw [show np (pd B) 4 - 1 + 1 = np (pd B) 4 by omega, ← val_top h1 h2, hv]
/-- The divisor, raised till it has its highest bit. -/
theorem raised {B k s : Nat} (hb : pd B k ≠ 0) (hB : B < 18446744073709551616 ^ (k + 1)) (hs : s = 64 - Lib.bitLen (pd B k)) : s < 64 ∧ s + Lib.bitLen (pd B k) = 64 ∧ B * 2 ^ s < 18446744073709551616 ^ (k + 1) ∧ 9223372036854775808 ≤ pd (B * 2 ^ s) k := by
  obtain ⟨h1, h2, h3⟩ := bitLen_bounds (pd B k) (pd_lt _ _) hb
  have h4 : Lib.bitLen (pd B k) ≤ 64 := by
    rcases Nat.lt_or_ge 64 (Lib.bitLen (pd B k)) with h | h
    · have := Nat.pow_le_pow_right (n := 2) (by omega) (show 64 ≤ Lib.bitLen (pd B k) - 1 by omega)
      have := pd_lt B k
      omega
    · exact h
  have hk : pd B k = B / 18446744073709551616 ^ k := by
    unfold pd
    rw [Nat.mod_eq_of_lt]
    rw [Nat.div_lt_iff_lt_mul (Nat.pow_pos (by omega)), Nat.mul_comm, ← Nat.pow_succ]; exact hB
  have h5 : B < 18446744073709551616 ^ k * 2 ^ Lib.bitLen (pd B k) := by
    have := Nat.div_add_mod B (18446744073709551616 ^ k)
    have hm := Nat.mod_lt B (Nat.pow_pos (n := k) (show 0 < 18446744073709551616 by omega))
    rw [← hk] at this
    have h6 : 18446744073709551616 ^ k * (pd B k + 1) ≤ 18446744073709551616 ^ k * 2 ^ Lib.bitLen (pd B k) := Nat.mul_le_mul_left _ h3
    rw [Nat.mul_add, Nat.mul_one] at h6
    generalize 18446744073709551616 ^ k * 2 ^ Lib.bitLen (pd B k) = u at *
    generalize 18446744073709551616 ^ k * pd B k = v at *
    generalize 18446744073709551616 ^ k = y at *
    omega
  have h6 : 18446744073709551616 ^ k * 2 ^ (Lib.bitLen (pd B k) - 1) ≤ B := by
    have := Nat.div_mul_le_self B (18446744073709551616 ^ k)
    rw [← hk] at this
    refine Nat.le_trans ?_ this
    rw [Nat.mul_comm]; exact Nat.mul_le_mul_right _ h2
  have e64 : s + Lib.bitLen (pd B k) = 64 := by omega
  have hp := Nat.two_pow_pos s
  have h7 : B * 2 ^ s < 18446744073709551616 ^ (k + 1) := by
    have := Nat.mul_lt_mul_of_pos_right h5 hp
    rw [Nat.mul_assoc, ← Nat.pow_add, show Lib.bitLen (pd B k) + s = 64 by omega, show (2 : Nat) ^ 64 = 18446744073709551616 by rfl, ← Nat.pow_succ] at this
    exact this
  refine ⟨by omega, e64, h7, ?_⟩
  have h8 : 18446744073709551616 ^ k * 9223372036854775808 ≤ B * 2 ^ s := by
    have := Nat.mul_le_mul_right (2 ^ s) h6
    rw [Nat.mul_assoc, ← Nat.pow_add, show Lib.bitLen (pd B k) - 1 + s = 63 by omega, show (2 : Nat) ^ 63 = 9223372036854775808 by rfl] at this
    exact this
  unfold pd
  rw [Nat.mod_eq_of_lt (by rw [Nat.div_lt_iff_lt_mul (Nat.pow_pos (by omega)), Nat.mul_comm 18446744073709551616, ← Nat.pow_succ]; exact h7), Nat.le_div_iff_mul_le (Nat.pow_pos (by omega)), Nat.mul_comm]
  exact h8

theorem divide_row (A B : Nat) (hA : A < 18446744073709551616 ^ 8) (hB : B ≠ 0) (h4 : B < 18446744073709551616 ^ 4) (w : World) : Calls Tryd.prog 18 #[.agg #[.int .u64 (pd A 0 : Nat), .int .u64 (pd A 1 : Nat), .int .u64 (pd A 2 : Nat), .int .u64 (pd A 3 : Nat), .int .u64 (pd A 4 : Nat), .int .u64 (pd A 5 : Nat), .int .u64 (pd A 6 : Nat), .int .u64 (pd A 7 : Nat)], .agg #[.int .u64 (pd B 0 : Nat), .int .u64 (pd B 1 : Nat), .int .u64 (pd B 2 : Nat), .int .u64 (pd B 3 : Nat)]] w fun e w' => e = .returned (.tuple #[dv (A / B), wv (A % B)]) ∧ Below w.heap.size w w' := by
  obtain ⟨n, hn⟩ : ∃ n, n = np (pd B) 4 := ⟨_, rfl⟩
  obtain ⟨m, hm⟩ : ∃ m, m = np (pd A) 8 := ⟨_, rfl⟩
  obtain ⟨k, hk, hnk, hbk, hBk, hBv⟩ := top_part hB h4 hn
  obtain ⟨s, hs⟩ : ∃ s, s = 64 - Lib.bitLen (pd B k) := ⟨_, rfl⟩
  obtain ⟨s1, s2, s3, s4⟩ := raised hbk hBk hs
  obtain ⟨m1, m2, -⟩ := np_spec (pd A) 8
  rw [← hm] at m1 m2
  have vA : val (pd A) 8 = A := by rw [val_pd, Nat.mod_eq_of_lt hA]
  have vA2 : val (pd A) m = A := by rw [← val_top m1 m2, vA]
  have k4 : 18446744073709551616 ^ (k + 1) ≤ 18446744073709551616 ^ 4 := Nat.pow_le_pow_right (by omega) (by omega)
  have s5 : B * 2 ^ s < 18446744073709551616 ^ 4 := Nat.lt_of_lt_of_le s3 k4
  have vD : val (pd (B * 2 ^ s)) n = B * 2 ^ s := by rw [hnk, val_pd, Nat.mod_eq_of_lt s3]
  have hA9 : A * 2 ^ s < 18446744073709551616 ^ 9 := by
    have h1 : 2 ^ s ≤ 2 ^ 64 := Nat.pow_le_pow_right (by omega) (by omega)
    have h2 : A * 2 ^ s ≤ A * 18446744073709551616 := Nat.mul_le_mul_left _ h1
    have h3 : A * 18446744073709551616 < 18446744073709551616 ^ 8 * 18446744073709551616 := Nat.mul_lt_mul_of_pos_right hA (by omega)
    rw [← Nat.pow_succ] at h3
    exact Nat.lt_of_le_of_lt h2 h3
  have vR : val (pd (A * 2 ^ s)) 9 = A * 2 ^ s := by rw [val_pd, Nat.mod_eq_of_lt hA9]
  have hP4 : 18446744073709551616 ^ 4 = 115792089237316195423570985008687907853269984665640564039457584007913129639936 := by rfl
  have hw := divide_walk (pd A) (pd B) (pd (B * 2 ^ s)) (pd (A * 2 ^ s)) (fun cur => pd (val cur 4 / 2 ^ s)) n k m s hk hnk m1 s1 w
    (fun B' w c0 c1 c2 c3 => by
      have := parts_any B' 0 4 4 (pd B) (by omega) w (upto4 (P := fun j => w.cell? ⟨B', 0 + j, none⟩ = some (.int .u64 (pd B j : Nat))) c0 c1 c2 c3)
      rw [← hn] at this; exact this)
    (fun w => (Tryd.bits_LeadingZeros64 (pd B k : Nat) w (by omega) (by have := pd_lt B k; omega)).mono fun e w' ⟨he, hw⟩ => ⟨by rw [he, Int.toNat_natCast, show (64 : Int) - (Lib.bitLen (pd B k) : Int) = ((s : Nat) : Int) by omega], hw.symm⟩)
    (fun w => by
      have h := shl_any s B w
      rw [show min (s % 115792089237316195423570985008687907853269984665640564039457584007913129639936) 256 = s by omega, wv_one (x := s) (by omega), wv_row B, wv_row (B * 2 ^ s)] at h
      exact h)
    (fun w => raise_any A s s1 hA w)
    (fun B' w c0 c1 c2 c3 c4 c5 c6 c7 => by
      have := parts_any B' 0 8 8 (pd A) (by omega) w (upto8 (P := fun j => w.cell? ⟨B', 0 + j, none⟩ = some (.int .u64 (pd A j : Nat))) c0 c1 c2 c3 c4 c5 c6 c7)
      rw [← hm] at this; exact this)
    (fun cur hc w => by
      have hv := val_lt (f := cur) (n := 4) (fun j hj => hc j (by omega))
      have h := shr_any s (val cur 4) w
      rw [show min (s % 115792089237316195423570985008687907853269984665640564039457584007913129639936) 256 = s by omega, wv_one (x := s) (by omega), wv_row (val cur 4), wv_row (_ / _), Nat.mod_eq_of_lt (by rw [← hP4]; exact hv)] at h
      rw [pd_val (n := 4) (fun j hj => hc j (by omega)) 0 (by omega), pd_val (n := 4) (fun j hj => hc j (by omega)) 1 (by omega), pd_val (n := 4) (fun j hj => hc j (by omega)) 2 (by omega), pd_val (n := 4) (fun j hj => hc j (by omega)) 3 (by omega)] at h
      exact h)
    (fun j _ => pd_lt _ _) (fun j _ => pd_lt _ _) s4
    (by
      have := div_start (a := pd A) (b := pd B) (m := m) (n := n) (s := s) (c := m + 1 - n) (fun j _ => pd_lt _ _) (by rw [hnk]; exact hbk) (by omega) (by omega)
      rw [vA2, hnk, ← hBv, ← hnk] at this
      rw [vR, vD]; exact this)
  refine hw.mono ?_
  rintro e w' ⟨cur, q, rfl, hc, hq, h1, h2, hb⟩
  rw [vD] at h1 h2
  rw [vR] at h1
  obtain ⟨h5, h6⟩ := div_end rfl h1 h2
  have h7 : val cur 9 = val cur 4 := val_top (by omega) (fun j h8 h9 => val_ztop (Nat.lt_trans h2 s5) j h8 h9)
  refine ⟨?_, hb⟩
  rw [wv_row, ← h6, h7, dv_row, ← h5]
  rw [pd_val hq 0 (by omega), pd_val hq 1 (by omega), pd_val hq 2 (by omega), pd_val hq 3 (by omega), pd_val hq 4 (by omega), pd_val hq 5 (by omega), pd_val hq 6 (by omega), pd_val hq 7 (by omega)]

-- WHAT divide COMES TO.
theorem divide_any (A B : Nat) (hA : A < 13407807929942597099574024998205846127479365820592393377723561443721764030073546976801874298166903427690031858186486050853753882811946569946433649006084096) (hB : B ≠ 0) (h4 : B < 115792089237316195423570985008687907853269984665640564039457584007913129639936) (w : World) : Calls Tryd.prog 18 #[dv A, wv B] w fun e w' => e = .returned (.tuple #[dv (A / B), wv (A % B)]) ∧ Below w.heap.size w w' := by
  rw [dv_row A, wv_row B]
  exact divide_row A B (by rw [show 18446744073709551616 ^ 8 = 13407807929942597099574024998205846127479365820592393377723561443721764030073546976801874298166903427690031858186486050853753882811946569946433649006084096 by rfl]; exact hA) hB (by rw [show 18446744073709551616 ^ 4 = 115792089237316195423570985008687907853269984665640564039457584007913129639936 by rfl]; exact h4) w
theorem divide_none (A : Nat) (w : World) : Calls Tryd.prog 18 #[dv A, wv 0] w fun e w' => e = .returned (.tuple #[dv 0, wv 0]) ∧ Below w.heap.size w w' := by
  rw [dv_row A]
  exact divide_zero A w
end Go.Proofs.YtmhgnlngcjckbaaDoor
namespace Go.Proofs.YtmhgnlngcjckbaaDoor
open Go.RowKit

theorem arr_lit (t : Array Value) : t = ((List.range t.size).map fun i => t.getD i undef).toArray := by
  apply Array.ext
  · simp
  · intro i h1 h2
    simp [h1]

/-- The worlds of a function over two words, whose result has a block of its own. -/
structure CR (w : World) (x y : Nat) (wx : World) : Prop where
  old : Below w.heap.size w wx
  r0 : wx.heap[w.heap.size]? = some (.cells (pw x) 24 (0, 0))
  r1 : wx.heap[w.heap.size + 1]? = some (.cells (pw y) 24 (0, 0))
  r2 : wx.heap[w.heap.size + 1 + 1]? = some (.cells #[.int .u64 0, .int .u64 0, .int .u64 0, .int .u64 0] 24 (0, 0))
theorem CR.high {w wx : World} {x y : Nat} (h : CR w x y wx) : w.heap.size + 1 + 1 + 1 ≤ wx.heap.size := (Array.getElem?_eq_some_iff.1 h.r2).1
theorem CR.below {w wx w' : World} {x y : Nat} (h : CR w x y wx) (hb : Below wx.heap.size wx w') : CR w x y w' := by
  have l := h.high
  exact ⟨h.old.trans (hb.mono h.old.size), (hb.block _ (by omega)).trans h.r0, (hb.block _ (by omega)).trans h.r1, (hb.block _ (by omega)).trans h.r2⟩
theorem CR.rowed {w wx : World} {x y g : Nat} {cs : Array Value} (h : CR w x y wx) (hg : w.heap.size + 1 + 1 + 1 ≤ g) : CR w x y (wx.setRow g cs) :=
  ⟨below_setRow h.old (by omega) _, (setRow_other _ _ _ _ (by omega)).trans h.r0, (setRow_other _ _ _ _ (by omega)).trans h.r1, (setRow_other _ _ _ _ (by omega)).trans h.r2⟩

def dw (x : Nat) : Array Value := match dv x with | .agg a => a | _ => #[]
theorem dv_dw (x : Nat) : dv x = .agg (dw x) := rfl
theorem dw_size (x : Nat) : (dw x).size = 8 := rfl
theorem dw_one (x : Nat) : (dw x).all (·.oneCell') = true := by simp [dw, dv, Value.oneCell']
/-- What two blocks are to hold, by their types. -/
def FQ (q r : Nat) (T : TypeId) : Array Value := if T = 43 then dw q else pw r
theorem infoWide : (Tryd.prog.info? 43).map (·.size) = some 8 := by kernel_rfl
theorem store_dw {g q r : Nat} {w : World} {cs : Array Value} (hg : w.heap[g]? = some (.cells cs 43 (0, 0))) (hs : cs.size = (FQ q r 43).size) : (Instr.storeAt 43 (.pointer (some ⟨g, 0, none⟩)) (dv q)).run Tryd.prog w = .ok () (w.setRow g (FQ q r 43)) := by
  rw [dv_dw]
  show _ = Result.ok () (w.setRow g (dw q))
  simp only [Instr.storeAt, Instr.sureAddr, Sem.run_bind, Sem.run_pure, Result.andThen_ok, run_storeVar_row w g 43 43 cs (dw q) hg infoWide hs (dw_one q)]
theorem store_qw {g q r : Nat} {w : World} {cs : Array Value} (hg : w.heap[g]? = some (.cells cs 24 (0, 0))) (hs : cs.size = (FQ q r 24).size) : (Instr.storeAt 24 (.pointer (some ⟨g, 0, none⟩)) (wv r)).run Tryd.prog w = .ok () (w.setRow g (FQ q r 24)) := store_pw hs hg
theorem widen_any (x : Nat) (w : World) : Calls Tryd.prog 19 #[wv x, .slice none 0 0] w fun e w' => e = .returned (dv (x % 115792089237316195423570985008687907853269984665640564039457584007913129639936)) ∧ Below w.heap.size w w' := by
  obtain ⟨a0, a1, a2, a3, u0, u1, u2, u3, ea, na⟩ := wv_parts x
  have h := widen_nil a0 a1 a2 a3 w
  rw [ea, ← na]
  have hn : dv (n4 a0 a1 a2 a3) = .agg #[.int .u64 a0, .int .u64 a1, .int .u64 a2, .int .u64 a3, .int .u64 0, .int .u64 0, .int .u64 0, .int .u64 0] := by
    have := dv_n8 (a4 := 0) (a5 := 0) (a6 := 0) (a7 := 0) u0 u1 u2 u3 (by omega) (by omega) (by omega) (by omega)
    rw [show n8 a0 a1 a2 a3 0 0 0 0 = n4 a0 a1 a2 a3 by unfold n8 n4; omega] at this
    exact this
  rw [hn]
  exact h
theorem narrow_any (x : Nat) (w : World) : Calls Tryd.prog 21 #[dv x] w fun e w' => e = .returned (wv x) ∧ Below w.heap.size w w' := by
  rw [dv_row, wv_row]
  exact narrow_walk _ _ _ _ _ _ _ _ w
/-- What divide tells. -/
def quoV (a y : Nat) : Nat := if y % 115792089237316195423570985008687907853269984665640564039457584007913129639936 = 0 then 0 else a / (y % 115792089237316195423570985008687907853269984665640564039457584007913129639936)
def remV (a y : Nat) : Nat := if y % 115792089237316195423570985008687907853269984665640564039457584007913129639936 = 0 then 0 else a % (y % 115792089237316195423570985008687907853269984665640564039457584007913129639936)
theorem divide_all (a y : Nat) (ha : a < 13407807929942597099574024998205846127479365820592393377723561443721764030073546976801874298166903427690031858186486050853753882811946569946433649006084096) (w : World) : Calls Tryd.prog 18 #[dv a, wv y] w fun e w' => e = .returned (.tuple #[dv (quoV a y), wv (remV a y)]) ∧ Below w.heap.size w w' := by
  rw [show wv y = wv (y % 115792089237316195423570985008687907853269984665640564039457584007913129639936) from wv_congr (Nat.mod_mod _ _).symm]
  unfold quoV remV
  by_cases h : y % 115792089237316195423570985008687907853269984665640564039457584007913129639936 = 0
  · rw [if_pos h, if_pos h, h]; exact divide_none a w
  · rw [if_neg h, if_neg h]; exact divide_any a _ ha h (Nat.mod_lt _ (by omega)) w
theorem below_self {B : Nat} (w : World) : Below B w w := Below.refl B w

end Go.Proofs.YtmhgnlngcjckbaaDoor
namespace Go.Proofs.YtmhgnlngcjckbaaDoor
open Go.RowKit

end Go.Proofs.YtmhgnlngcjckbaaDoor
namespace Go.Proofs.YtmhgnlngcjckbaaDoor
open Go.RowKit

theorem nan_any (x : Nat) (w : World) : Calls Tryd.prog 67 #[.int .u64 x] w fun e w' => e = .returned (.bool false) ∧ w = w' := by
  go_enter Tryd.func67, Tryd.ntmps67
  go_wp2
  go_ret
  exact ⟨rfl, rfl⟩

set_option maxHeartbeats 400000 in
theorem compare_lt (x y : Nat) (h : (x : Int) < y) (w : World) : Calls Tryd.prog 47 #[.int .u64 x, .int .u64 y] w fun e w' => e = .returned (.int .i64 (-1)) ∧ w = w' := by
  go_enter Tryd.func47, Tryd.ntmps47
  go_wp2_with (go_at_call 67; refine (nan_any _ _).mono ?_; rintro e w' ⟨rfl, rfl⟩)
  go_ret
  exact ⟨rfl, rfl⟩
set_option maxHeartbeats 400000 in
theorem compare_gt (x y : Nat) (h : (y : Int) < x) (w : World) : Calls Tryd.prog 47 #[.int .u64 x, .int .u64 y] w fun e w' => e = .returned (.int .i64 1) ∧ w = w' := by
  have h' : ¬ (x : Int) < y := by omega
  go_enter Tryd.func47, Tryd.ntmps47
  go_wp2_with (go_at_call 67; refine (nan_any _ _).mono ?_; rintro e w' ⟨rfl, rfl⟩)
  go_ret
  exact ⟨rfl, rfl⟩

set_option maxRecDepth 100000 in
set_option maxHeartbeats 1000000 in
theorem cmp_3 (a0 a1 a2 a3 b0 b1 b2 b3 : Nat) (r : Int) (hn : ((a3 : Int) != b3) = true) (w : World)
    (hc : ∀ w, Calls Tryd.prog 47 #[.int .u64 a3, .int .u64 b3] w fun e w' => e = .returned (.int .i64 r) ∧ w = w') :
    Calls Tryd.prog 30 #[.agg #[.int .u64 a0, .int .u64 a1, .int .u64 a2, .int .u64 a3], .agg #[.int .u64 b0, .int .u64 b1, .int .u64 b2, .int .u64 b3]] w fun e w' => e = .returned (.int .i64 r) ∧ Below w.heap.size w w' := by
  go_enter Tryd.func30, Tryd.ntmps30
  go_wp2
  refine wp_loop_rounds 5 ?_
  rw [rounds_succ]; go_wp2; go_region; go_wp2
  go_region_with (go_at_call 47; refine (hc _).mono ?_; rintro e w' ⟨rfl, rfl⟩)
  all_goals (go_wp2; go_ret; exact ⟨rfl, by go_grown⟩)

set_option maxRecDepth 100000 in
set_option maxHeartbeats 1000000 in
theorem cmp_2 (a0 a1 a2 a3 b0 b1 b2 : Nat) (r : Int) (hn : ((a2 : Int) != b2) = true) (w : World)
    (hc : ∀ w, Calls Tryd.prog 47 #[.int .u64 a2, .int .u64 b2] w fun e w' => e = .returned (.int .i64 r) ∧ w = w') :
    Calls Tryd.prog 30 #[.agg #[.int .u64 a0, .int .u64 a1, .int .u64 a2, .int .u64 a3], .agg #[.int .u64 b0, .int .u64 b1, .int .u64 b2, .int .u64 a3]] w fun e w' => e = .returned (.int .i64 r) ∧ Below w.heap.size w w' := by
  go_enter Tryd.func30, Tryd.ntmps30
  go_wp2
  refine wp_loop_rounds 5 ?_
  rw [rounds_succ]; go_wp2; go_region; go_wp2
  rw [rounds_succ]; go_wp2; go_region; go_wp2
  go_region_with (go_at_call 47; refine (hc _).mono ?_; rintro e w' ⟨rfl, rfl⟩)
  all_goals (go_wp2; go_ret; exact ⟨rfl, by go_grown⟩)

set_option maxRecDepth 100000 in
set_option maxHeartbeats 1000000 in
theorem cmp_1 (a0 a1 a2 a3 b0 b1 : Nat) (r : Int) (hn : ((a1 : Int) != b1) = true) (w : World)
    (hc : ∀ w, Calls Tryd.prog 47 #[.int .u64 a1, .int .u64 b1] w fun e w' => e = .returned (.int .i64 r) ∧ w = w') :
    Calls Tryd.prog 30 #[.agg #[.int .u64 a0, .int .u64 a1, .int .u64 a2, .int .u64 a3], .agg #[.int .u64 b0, .int .u64 b1, .int .u64 a2, .int .u64 a3]] w fun e w' => e = .returned (.int .i64 r) ∧ Below w.heap.size w w' := by
  go_enter Tryd.func30, Tryd.ntmps30
  go_wp2
  refine wp_loop_rounds 5 ?_
  rw [rounds_succ]; go_wp2; go_region; go_wp2
  rw [rounds_succ]; go_wp2; go_region; go_wp2
  rw [rounds_succ]; go_wp2; go_region; go_wp2
  go_region_with (go_at_call 47; refine (hc _).mono ?_; rintro e w' ⟨rfl, rfl⟩)
  all_goals (go_wp2; go_ret; exact ⟨rfl, by go_grown⟩)

set_option maxRecDepth 100000 in
set_option maxHeartbeats 1000000 in
theorem cmp_0 (a0 a1 a2 a3 b0 : Nat) (r : Int) (hn : ((a0 : Int) != b0) = true) (w : World)
    (hc : ∀ w, Calls Tryd.prog 47 #[.int .u64 a0, .int .u64 b0] w fun e w' => e = .returned (.int .i64 r) ∧ w = w') :
    Calls Tryd.prog 30 #[.agg #[.int .u64 a0, .int .u64 a1, .int .u64 a2, .int .u64 a3], .agg #[.int .u64 b0, .int .u64 a1, .int .u64 a2, .int .u64 a3]] w fun e w' => e = .returned (.int .i64 r) ∧ Below w.heap.size w w' := by
  go_enter Tryd.func30, Tryd.ntmps30
  go_wp2
  refine wp_loop_rounds 5 ?_
  rw [rounds_succ]; go_wp2; go_region; go_wp2
  rw [rounds_succ]; go_wp2; go_region; go_wp2
  rw [rounds_succ]; go_wp2; go_region; go_wp2
  rw [rounds_succ]; go_wp2; go_region; go_wp2
  go_region_with (go_at_call 47; refine (hc _).mono ?_; rintro e w' ⟨rfl, rfl⟩)
  all_goals (go_wp2; go_ret; exact ⟨rfl, by go_grown⟩)

set_option maxRecDepth 100000 in
set_option maxHeartbeats 1000000 in
theorem cmp_e (a0 a1 a2 a3 : Nat) (w : World) :
    Calls Tryd.prog 30 #[.agg #[.int .u64 a0, .int .u64 a1, .int .u64 a2, .int .u64 a3], .agg #[.int .u64 a0, .int .u64 a1, .int .u64 a2, .int .u64 a3]] w fun e w' => e = .returned (.int .i64 0) ∧ Below w.heap.size w w' := by
  go_enter Tryd.func30, Tryd.ntmps30
  go_wp2
  refine wp_loop_rounds 5 ?_
  iterate 4 (rw [rounds_succ]; go_wp2; go_region; go_wp2)
  rw [rounds_succ]; go_wp2
  go_ret
  exact ⟨rfl, by go_grown⟩

theorem compare_any (x y : Nat) (h : x ≠ y) (w : World) : Calls Tryd.prog 47 #[.int .u64 x, .int .u64 y] w fun e w' => e = .returned (.int .i64 (if x < y then -1 else 1)) ∧ w = w' := by
  by_cases hlt : x < y
  · rw [if_pos hlt]; exact compare_lt x y (by omega) w
  · rw [if_neg hlt]; exact compare_gt x y (by omega) w

/-- The order of two numbers. -/
def ord (x y : Nat) : Int := if x < y then -1 else if y < x then 1 else 0

theorem neB {x y : Nat} (h : x ≠ y) : ((x : Int) != (y : Int)) = true := by rw [bne_iff_ne]; omega

-- WHAT Cmp COMES TO.
theorem cmp_any (x y : Nat) (w : World) :
    Calls Tryd.prog 30 #[wv x, wv y] w fun e w' => e = .returned (.int .i64 (ord (x % 115792089237316195423570985008687907853269984665640564039457584007913129639936) (y % 115792089237316195423570985008687907853269984665640564039457584007913129639936))) ∧ Below w.heap.size w w' := by
  obtain ⟨a0, a1, a2, a3, u0, u1, u2, u3, ea, na⟩ := wv_parts x
  obtain ⟨b0, b1, b2, b3, v0, v1, v2, v3, eb, nb⟩ := wv_parts y
  rw [ea, eb, ← na, ← nb]
  have key : ∀ p q : Nat, p ≠ q → (p < q ↔ n4 a0 a1 a2 a3 < n4 b0 b1 b2 b3) → n4 a0 a1 a2 a3 ≠ n4 b0 b1 b2 b3 → (if p < q then (-1 : Int) else 1) = ord (n4 a0 a1 a2 a3) (n4 b0 b1 b2 b3) := by
    intro p q hpq hi hn
    unfold ord
    by_cases h : p < q
    · rw [if_pos h, if_pos (hi.1 h)]
    · rw [if_neg h, if_neg (fun h' => h (hi.2 h')), if_pos (by have : ¬ n4 a0 a1 a2 a3 < n4 b0 b1 b2 b3 := fun h' => h (hi.2 h'); omega)]
  by_cases h3 : a3 = b3
  · by_cases h2 : a2 = b2
    · by_cases h1 : a1 = b1
      · by_cases h0 : a0 = b0
        · subst h0 h1 h2 h3
          have : ord (n4 a0 a1 a2 a3) (n4 a0 a1 a2 a3) = 0 := by unfold ord; simp
          rw [this]
          exact cmp_e a0 a1 a2 a3 w
        · subst h1 h2 h3
          rw [← key a0 b0 h0 (by unfold n4; omega) (by unfold n4; omega)]
          exact cmp_0 _ _ _ _ _ _ (neB h0) w (compare_any a0 b0 h0)
      · subst h2 h3
        rw [← key a1 b1 h1 (by unfold n4; omega) (by unfold n4; omega)]
        exact cmp_1 _ _ _ _ _ _ _ (neB h1) w (compare_any a1 b1 h1)
    · subst h3
      rw [← key a2 b2 h2 (by unfold n4; omega) (by unfold n4; omega)]
      exact cmp_2 _ _ _ _ _ _ _ _ (neB h2) w (compare_any a2 b2 h2)
  · rw [← key a3 b3 h3 (by unfold n4; omega) (by unfold n4; omega)]
    exact cmp_3 _ _ _ _ _ _ _ _ _ (neB h3) w (compare_any a3 b3 h3)
end Go.Proofs.YtmhgnlngcjckbaaDoor
namespace Go.Proofs.YtmhgnlngcjckbaaDoor
open Go.RowKit

theorem format42i (w : World) : Calls Tryd.prog 37 #[.int .u64 42, .int .i64 10] w fun e w' => e = .returned (.string ⟨#[52, 50]⟩) ∧ w = w' := by
  have hd : Lib.decDigits 42 = [52, 50] := by decide +kernel
  have hs : ∀ w, Calls Tryd.prog 55 #[.int .i64 42] w fun e w' => e = .returned (.string ⟨#[52, 50]⟩) ∧ w = w' := fun w => (Tryd.internal_strconv_small 42 (by omega) w).mono fun e w' ⟨he, hw⟩ => ⟨by rw [he, hd], hw.symm⟩
  clear hd
  have HS := Lib.hid hs; clear hs
  go_enter Tryd.func37, Tryd.ntmps37
  go_wp2_with fail
  refine (HS.out _).mono ?_
  rintro e w' ⟨rfl, rfl⟩
  go_wp2
  go_ret
  exact ⟨rfl, rfl⟩
theorem format42 (w : World) : Calls Tryd.prog 20 #[.int .u64 42, .int .i64 10] w fun e w' => e = .returned (.string ⟨#[52, 50]⟩) ∧ w = w' := by
  go_enter Tryd.func20, Tryd.ntmps20
  go_wp2_with fail
  refine (format42i _).mono ?_
  rintro e w' ⟨rfl, rfl⟩
  go_wp2
  go_ret
  exact ⟨rfl, rfl⟩

theorem eq_zero4 (w : World) : (Op.equalIn 10000 24 (.agg #[.int .u64 0, .int .u64 0, .int .u64 0, .int .u64 0]) (.agg #[.int .u64 0, .int .u64 0, .int .u64 0, .int .u64 0])).run Tryd.prog w = .ok true w := eqW 0 0 0 0 0 0 0 0 w

set_option maxRecDepth 100000 in
set_option maxHeartbeats 2000000 in
theorem decimal42 (w : World) (hD : ∀ w, Calls Tryd.prog 18 #[.agg #[.int .u64 42, .int .u64 0, .int .u64 0, .int .u64 0, .int .u64 0, .int .u64 0, .int .u64 0, .int .u64 0], .agg #[.int .u64 10000000000000000000, .int .u64 0, .int .u64 0, .int .u64 0]] w fun e w' => e = .returned (.tuple #[.agg #[.int .u64 0, .int .u64 0, .int .u64 0, .int .u64 0, .int .u64 0, .int .u64 0, .int .u64 0, .int .u64 0], .agg #[.int .u64 42, .int .u64 0, .int .u64 0, .int .u64 0]]) ∧ Below w.heap.size w w') :
    Calls Tryd.prog 9 #[.agg #[.int .u64 42, .int .u64 0, .int .u64 0, .int .u64 0]] w fun e w' => e = .returned (.string ⟨#[52, 50]⟩) ∧ Below w.heap.size w w' := by
  have hW : ∀ w, Calls Tryd.prog 19 #[.agg #[.int .u64 42, .int .u64 0, .int .u64 0, .int .u64 0], .slice none 0 0] w fun e w' => e = .returned (.agg #[.int .u64 42, .int .u64 0, .int .u64 0, .int .u64 0, .int .u64 0, .int .u64 0, .int .u64 0, .int .u64 0]) ∧ Below w.heap.size w w' := fun w => widen_nil 42 0 0 0 w
  have hO : ∀ w, Calls Tryd.prog 11 #[.int .u64 10000000000000000000] w fun e w' => e = .returned (.agg #[.int .u64 10000000000000000000, .int .u64 0, .int .u64 0, .int .u64 0]) ∧ Below w.heap.size w w' := fun w => of_walk 10000000000000000000 w
  have hN : ∀ w, Calls Tryd.prog 21 #[.agg #[.int .u64 0, .int .u64 0, .int .u64 0, .int .u64 0, .int .u64 0, .int .u64 0, .int .u64 0, .int .u64 0]] w fun e w' => e = .returned (.agg #[.int .u64 0, .int .u64 0, .int .u64 0, .int .u64 0]) ∧ Below w.heap.size w w' := fun w => narrow_walk 0 0 0 0 0 0 0 0 w
  have HW := Lib.hid hW; clear hW
  have HO := Lib.hid hO; clear hO
  have HN := Lib.hid hN; clear hN
  have HD := Lib.hid hD; clear hD
  have hq := eq_zero4
  go_enter Tryd.func9, Tryd.ntmps9
  go_wp2
  refine wp_loop_rounds 1 ?_
  rw [rounds_succ]
  go_wp2_with fail
  refine (HW.out _).mono ?_
  rintro e w1 ⟨rfl, hb1⟩
  have b1 : Below w.heap.size w w1 := Below.trans (by go_grown) (hb1.mono (by simp))
  have c10 : w1.cell? ⟨w.heap.size, 0, none⟩ = some (.int .u64 42) := (hb1.cell (p := ⟨w.heap.size, 0, none⟩) (by simp)).trans (by go_cell)
  have c11 : w1.cell? ⟨w.heap.size, 1, none⟩ = some (.int .u64 0) := (hb1.cell (p := ⟨w.heap.size, 1, none⟩) (by simp)).trans (by go_cell)
  have c12 : w1.cell? ⟨w.heap.size, 2, none⟩ = some (.int .u64 0) := (hb1.cell (p := ⟨w.heap.size, 2, none⟩) (by simp)).trans (by go_cell)
  have c13 : w1.cell? ⟨w.heap.size, 3, none⟩ = some (.int .u64 0) := (hb1.cell (p := ⟨w.heap.size, 3, none⟩) (by simp)).trans (by go_cell)
  have f10 : w1.frozen? ⟨w.heap.size, 0, none⟩ = false := (hb1.frozen (p := ⟨w.heap.size, 0, none⟩) (by simp)).trans (by go_cell)
  have f11 : w1.frozen? ⟨w.heap.size, 1, none⟩ = false := (hb1.frozen (p := ⟨w.heap.size, 1, none⟩) (by simp)).trans (by go_cell)
  have f12 : w1.frozen? ⟨w.heap.size, 2, none⟩ = false := (hb1.frozen (p := ⟨w.heap.size, 2, none⟩) (by simp)).trans (by go_cell)
  have f13 : w1.frozen? ⟨w.heap.size, 3, none⟩ = false := (hb1.frozen (p := ⟨w.heap.size, 3, none⟩) (by simp)).trans (by go_cell)
  have z1 : w.heap.size < w1.heap.size := by have h := hb1.size; simp at h; omega
  clear hb1
  go_wp2_with fail
  refine (HO.out _).mono ?_
  rintro e w2 ⟨rfl, hb2⟩
  have b2 : Below w.heap.size w w2 := b1.trans (hb2.mono (by omega))
  have c20 := (hb2.cell (p := ⟨w.heap.size, 0, none⟩) z1).trans c10
  have c21 := (hb2.cell (p := ⟨w.heap.size, 1, none⟩) z1).trans c11
  have c22 := (hb2.cell (p := ⟨w.heap.size, 2, none⟩) z1).trans c12
  have c23 := (hb2.cell (p := ⟨w.heap.size, 3, none⟩) z1).trans c13
  have f20 := (hb2.frozen (p := ⟨w.heap.size, 0, none⟩) z1).trans f10
  have f21 := (hb2.frozen (p := ⟨w.heap.size, 1, none⟩) z1).trans f11
  have f22 := (hb2.frozen (p := ⟨w.heap.size, 2, none⟩) z1).trans f12
  have f23 := (hb2.frozen (p := ⟨w.heap.size, 3, none⟩) z1).trans f13
  have z2 := Nat.lt_of_lt_of_le z1 hb2.size
  clear hb2 b1 c10 c11 c12 c13 f10 f11 f12 f13 z1
  go_wp2_with fail
  refine (HD.out _).mono ?_
  rintro e w3 ⟨rfl, hb3⟩
  have b3 : Below w.heap.size w w3 := b2.trans (hb3.mono (by omega))
  have c30 := (hb3.cell (p := ⟨w.heap.size, 0, none⟩) z2).trans c20
  have c31 := (hb3.cell (p := ⟨w.heap.size, 1, none⟩) z2).trans c21
  have c32 := (hb3.cell (p := ⟨w.heap.size, 2, none⟩) z2).trans c22
  have c33 := (hb3.cell (p := ⟨w.heap.size, 3, none⟩) z2).trans c23
  have f30 := (hb3.frozen (p := ⟨w.heap.size, 0, none⟩) z2).trans f20
  have f31 := (hb3.frozen (p := ⟨w.heap.size, 1, none⟩) z2).trans f21
  have f32 := (hb3.frozen (p := ⟨w.heap.size, 2, none⟩) z2).trans f22
  have f33 := (hb3.frozen (p := ⟨w.heap.size, 3, none⟩) z2).trans f23
  have z3 := Nat.lt_of_lt_of_le z2 hb3.size
  clear hb3 b2 c20 c21 c22 c23 f20 f21 f22 f23 z2
  go_wp2_with fail
  refine (format42 _).mono ?_
  rintro e w' ⟨rfl, rfl⟩
  go_wp2_with fail
  refine (HN.out _).mono ?_
  rintro e w4 ⟨rfl, hb4⟩
  have b4 : Below w.heap.size w w4 := Below.trans (by go_grown) (hb4.mono (by simp; omega))
  have c40 : w4.cell? ⟨w.heap.size, 0, none⟩ = some (.int .u64 42) := (hb4.cell (p := ⟨w.heap.size, 0, none⟩) (by simp; omega)).trans (by go_cell)
  have c41 : w4.cell? ⟨w.heap.size, 1, none⟩ = some (.int .u64 0) := (hb4.cell (p := ⟨w.heap.size, 1, none⟩) (by simp; omega)).trans (by go_cell)
  have c42 : w4.cell? ⟨w.heap.size, 2, none⟩ = some (.int .u64 0) := (hb4.cell (p := ⟨w.heap.size, 2, none⟩) (by simp; omega)).trans (by go_cell)
  have c43 : w4.cell? ⟨w.heap.size, 3, none⟩ = some (.int .u64 0) := (hb4.cell (p := ⟨w.heap.size, 3, none⟩) (by simp; omega)).trans (by go_cell)
  have f40 : w4.frozen? ⟨w.heap.size, 0, none⟩ = false := (hb4.frozen (p := ⟨w.heap.size, 0, none⟩) (by simp; omega)).trans (by go_cell)
  have f41 : w4.frozen? ⟨w.heap.size, 1, none⟩ = false := (hb4.frozen (p := ⟨w.heap.size, 1, none⟩) (by simp; omega)).trans (by go_cell)
  have f42 : w4.frozen? ⟨w.heap.size, 2, none⟩ = false := (hb4.frozen (p := ⟨w.heap.size, 2, none⟩) (by simp; omega)).trans (by go_cell)
  have f43 : w4.frozen? ⟨w.heap.size, 3, none⟩ = false := (hb4.frozen (p := ⟨w.heap.size, 3, none⟩) (by simp; omega)).trans (by go_cell)
  clear hb4 b3 c30 c31 c32 c33 f30 f31 f32 f33
  go_wp2
  go_ret
  exact ⟨rfl, by go_grown⟩
end Go.Proofs.YtmhgnlngcjckbaaDoor
namespace Go.Proofs.YtmhgnlngcjckbaaDoor
open Go.RowKit

/-- The worlds in which block b is still the word that it was, and nothing elder has turned. -/
def ClW (w : World) (b : Nat) (v0 v1 v2 v3 : Value) (wx : World) : Prop := Below w.heap.size w wx ∧ (wx.cell? ⟨b, 0, none⟩ = some v0 ∧ wx.cell? ⟨b, 1, none⟩ = some v1 ∧ wx.cell? ⟨b, 2, none⟩ = some v2 ∧ wx.cell? ⟨b, 3, none⟩ = some v3) ∧ b < wx.heap.size
theorem ClW.below {w wx w' : World} {b : Nat} {v0 v1 v2 v3 : Value} (h : ClW w b v0 v1 v2 v3 wx) (hb : Below wx.heap.size wx w') : ClW w b v0 v1 v2 v3 w' := by
  obtain ⟨h0, ⟨c0, c1, c2, c3⟩, hs⟩ := h
  exact ⟨h0.trans (hb.mono h0.size), ⟨(hb.cell hs).trans c0, (hb.cell hs).trans c1, (hb.cell hs).trans c2, (hb.cell hs).trans c3⟩, Nat.lt_of_lt_of_le hs hb.size⟩
theorem ClW.drew {w wx : World} {b : Nat} {v0 v1 v2 v3 : Value} (h : ClW w b v0 v1 v2 v3 wx) : ClW w b v0 v1 v2 v3 wx.drew := ⟨h.1.drew, h.2.1, h.2.2⟩

set_option maxRecDepth 100000 in
set_option maxHeartbeats 2000000 in
theorem lives_walk (w : World)
    (hO7 : ∀ w, Calls Tryd.prog 11 #[.int .u64 7] w fun e w' => e = .returned (.agg #[.int .u64 7, .int .u64 0, .int .u64 0, .int .u64 0]) ∧ Below w.heap.size w w')
    (hO6 : ∀ w, Calls Tryd.prog 11 #[.int .u64 6] w fun e w' => e = .returned (.agg #[.int .u64 6, .int .u64 0, .int .u64 0, .int .u64 0]) ∧ Below w.heap.size w w')
    (hO41 : ∀ w, Calls Tryd.prog 11 #[.int .u64 41] w fun e w' => e = .returned (.agg #[.int .u64 41, .int .u64 0, .int .u64 0, .int .u64 0]) ∧ Below w.heap.size w w')
    (hM : ∀ w, Calls Tryd.prog 29 #[.agg #[.int .u64 7, .int .u64 0, .int .u64 0, .int .u64 0], .agg #[.int .u64 6, .int .u64 0, .int .u64 0, .int .u64 0]] w fun e w' => e = .returned (.agg #[.int .u64 42, .int .u64 0, .int .u64 0, .int .u64 0]) ∧ Below w.heap.size w w')
    (hS : ∀ w, Calls Tryd.prog 6 #[.agg #[.int .u64 42, .int .u64 0, .int .u64 0, .int .u64 0]] w fun e w' => e = .returned (.tuple #[.int .u64 42, .bool true]) ∧ Below w.heap.size w w')
    (hD : ∀ w, Calls Tryd.prog 9 #[.agg #[.int .u64 42, .int .u64 0, .int .u64 0, .int .u64 0]] w fun e w' => e = .returned (.string ⟨#[52, 50]⟩) ∧ Below w.heap.size w w')
    (hC : ∀ w, Calls Tryd.prog 30 #[.agg #[.int .u64 42, .int .u64 0, .int .u64 0, .int .u64 0], .agg #[.int .u64 41, .int .u64 0, .int .u64 0, .int .u64 0]] w fun e w' => e = .returned (.int .i64 1) ∧ Below w.heap.size w w') :
    Calls Tryd.prog 14 #[] w fun e w' => e = .returned (.bool true) ∧ Below w.heap.size w w' := by
  have HO7 := Lib.hid hO7; clear hO7
  have HO6 := Lib.hid hO6; clear hO6
  have HO41 := Lib.hid hO41; clear hO41
  have HM := Lib.hid hM; clear hM
  have HS := Lib.hid hS; clear hS
  have HD := Lib.hid hD; clear hD
  have HC := Lib.hid hC; clear hC
  go_enter Tryd.func14, Tryd.ntmps14
  go_wp2_with fail
  refine (HO7.out _).mono ?_
  rintro e w1 ⟨rfl, b1⟩
  go_wp2_with fail
  refine (HO6.out _).mono ?_
  rintro e w2 ⟨rfl, hb⟩
  have b2 : Below w.heap.size w w2 := b1.trans (hb.mono b1.size)
  clear hb b1
  go_wp2_with fail
  refine (HM.out _).mono ?_
  rintro e w3 ⟨rfl, hb⟩
  have b3 : Below w.heap.size w w3 := b2.trans (hb.mono b2.size)
  clear hb b2
  go_wp2_with fail
  refine (HS.out _).mono ?_
  rintro e w4 ⟨rfl, hb⟩
  have hcl0 : ClW w w3.heap.size (.int .u64 42) (.int .u64 0) (.int .u64 0) (.int .u64 0) (w3.alloc (.cells #[.int .u64 42, .int .u64 0, .int .u64 0, .int .u64 0] 24)) := ⟨b3.alloc b3.size _, ⟨by go_cell, by go_cell, by go_cell, by go_cell⟩, by simp⟩
  have HCL := Lib.hid (hcl0.below hb)
  clear hcl0 hb b3
  go_wp2_with fail
  refine wp_region_quiet (C := ClW w w3.heap.size (.int .u64 42) (.int .u64 0) (.int .u64 0) (.int .u64 0)) (by kernel_rfl) (by kernel_rfl) HCL.out.drew ?_
  refine wpQuiet_step (fun K hK => ?_)
  go_simp
  first | refine ⟨_, fun _ _ => rfl, hK _ ?_⟩ | refine hK _ ?_
  clear hK K
  refine wpQuiet_step (fun K hK => ?_)
  go_simp
  first | refine ⟨_, fun _ _ => rfl, hK _ ?_⟩ | refine hK _ ?_
  clear hK K
  refine wpQuiet_step (fun K hK => ?_)
  go_simp
  first | refine ⟨_, fun _ _ => rfl, hK _ ?_⟩ | refine hK _ ?_
  clear hK K
  refine wpQuiet_step (fun K hK => ?_)
  go_simp
  first | refine ⟨_, fun _ _ => rfl, hK _ ?_⟩ | refine hK _ ?_
  clear hK K
  refine wpQuiet_step (fun K hK => ?_)
  go_simp
  first | refine ⟨_, fun _ _ => rfl, hK _ ?_⟩ | refine hK _ ?_
  clear hK K
  refine wpQuiet_step (fun K hK => ?_)
  go_simp
  first | refine ⟨_, fun _ _ => rfl, hK _ ?_⟩ | refine hK _ ?_
  clear hK K
  refine wpQuiet_step (fun K hK => ?_)
  rw [if_pos (by rfl)]
  refine ⟨.agg #[.int .u64 42, .int .u64 0, .int .u64 0, .int .u64 0], fun wx hC => ?_, hK _ ?_⟩
  · obtain ⟨-, ⟨c0, c1, c2, c3⟩, -⟩ := hC
    go_simp
  clear hK K
  refine wpQuiet_step (fun K hK => ?_)
  rw [if_pos (by rfl)]
  refine ⟨.string ⟨#[52, 50]⟩, fun wx hC => ?_, hK _ ?_⟩
  · go_simp
    refine (HD.out _).mono ?_
    rintro e w' ⟨rfl, hb⟩
    exact ⟨rfl, hC.below hb⟩
  clear hK K
  refine wpQuiet_step (fun K hK => ?_)
  go_simp
  first | refine ⟨_, fun _ _ => rfl, hK _ ?_⟩ | refine hK _ ?_
  clear hK K
  refine wpQuiet_step (fun K hK => ?_)
  go_simp
  first | refine ⟨_, fun _ _ => rfl, hK _ ?_⟩ | refine hK _ ?_
  clear hK K
  refine wpQuiet_step (fun K hK => ?_)
  go_simp
  first | refine ⟨_, fun _ _ => rfl, hK _ ?_⟩ | refine hK _ ?_
  clear hK K
  refine wpQuiet_step (fun K hK => ?_)
  rw [if_pos (by rfl)]
  refine ⟨.agg #[.int .u64 42, .int .u64 0, .int .u64 0, .int .u64 0], fun wx hC => ?_, hK _ ?_⟩
  · obtain ⟨-, ⟨c0, c1, c2, c3⟩, -⟩ := hC
    go_simp
  clear hK K
  refine wpQuiet_step (fun K hK => ?_)
  rw [if_pos (by rfl)]
  refine ⟨.agg #[.int .u64 41, .int .u64 0, .int .u64 0, .int .u64 0], fun wx hC => ?_, hK _ ?_⟩
  · go_simp
    refine (HO41.out _).mono ?_
    rintro e w' ⟨rfl, hb⟩
    exact ⟨rfl, hC.below hb⟩
  clear hK K
  refine wpQuiet_step (fun K hK => ?_)
  rw [if_pos (by rfl)]
  refine ⟨.int .i64 1, fun wx hC => ?_, hK _ ?_⟩
  · go_simp
    refine (HC.out _).mono ?_
    rintro e w' ⟨rfl, hb⟩
    exact ⟨rfl, hC.below hb⟩
  clear hK K
  refine wpQuiet_step (fun K hK => ?_)
  go_simp
  first | refine ⟨_, fun _ _ => rfl, hK _ ?_⟩ | refine hK _ ?_
  clear hK K
  refine wpQuiet_step (fun K hK => ?_)
  go_simp
  first | refine ⟨_, fun _ _ => rfl, hK _ ?_⟩ | refine hK _ ?_
  clear hK K
  refine wpQuiet_step (fun K hK => ?_)
  go_simp
  first | refine ⟨_, fun _ _ => rfl, hK _ ?_⟩ | refine hK _ ?_
  clear hK K
  refine wpQuiet_nil ?_
  intro wx hC
  have hB := hC.1
  clear hC
  go_wp2
  go_ret
  exact ⟨rfl, hB⟩

-- lives ANSWERS TRUE.
theorem lives_any (w : World) : Calls Tryd.prog 14 #[] w fun e w' => e = .returned (.bool true) ∧ Below w.heap.size w w' := by
  have o : ∀ n : Nat, ∀ w, Calls Tryd.prog 11 #[.int .u64 n] w fun e w' => e = .returned (.agg #[.int .u64 n, .int .u64 0, .int .u64 0, .int .u64 0]) ∧ Below w.heap.size w w' := fun n w => of_walk n w
  have e42 : wv (7 * 6) = .agg #[.int .u64 42, .int .u64 0, .int .u64 0, .int .u64 0] := wv_one (x := 42) (by omega)
  refine lives_walk w (o 7) (o 6) (o 41) (fun w => ?_) (fun w => small_yes 42 w) (fun w => decimal42 w (fun w => divide_small 42 10000000000000000000 (by omega) (by omega) (by omega) (by omega) w)) (fun w => ?_)
  · have h := mul_any 7 6 w
    rw [e42, wv_one (x := 7) (by omega), wv_one (x := 6) (by omega)] at h
    exact h
  · have h := cmp_any 42 41 w
    rw [wv_one (x := 42) (by omega), wv_one (x := 41) (by omega)] at h
    exact h
end Go.Proofs.YtmhgnlngcjckbaaDoor
namespace Go.Proofs.YtmhgnlngcjckbaaDoor
open Go.RowKit

theorem eqg_any (x : Nat) (o1 o2 : Operand) (w : World) : (eqGuard BinOp.eql 24 o1 o2 (wv x) (wv x)).run Tryd.prog w = .ok () w := by kernel_rfl
theorem eqb_any (x : Nat) (w : World) : (binOp BinOp.eql 24 (wv x) (wv x)).run Tryd.prog w = .ok (.bool true) w := by
  obtain ⟨x0, x1, x2, x3, -, -, -, -, ex, -⟩ := wv_parts x
  rw [ex]
  have h : ∀ w, (Op.equalIn 10000 24 (.agg #[.int .u64 x0, .int .u64 x1, .int .u64 x2, .int .u64 x3]) (.agg #[.int .u64 x0, .int .u64 x1, .int .u64 x2, .int .u64 x3])).run Tryd.prog w = .ok true w := fun w => by
    have := eqW x0 x1 x2 x3 x0 x1 x2 x3 w
    simpa using this
  go_simp

end Go.Proofs.YtmhgnlngcjckbaaDoor
namespace Go.Proofs.YtmhgnlngcjckbaaDoor
open Go.RowKit

/-- A slot holds n digits of the number V. -/
def DS (n V : Nat) (v : Value) (w : World) : Prop := ∃ (b cap : Nat) (d : Nat → Nat), v = .slice (some ⟨b, 0, none⟩) n cap ∧ Dg w b n d ∧ (∀ j, j < n → d j < 65536) ∧ vd d n = V
/-- .. so many digits, at most m and one. -/
def DR (m V : Nat) (v : Value) (w : World) : Prop := ∃ nr, nr ≤ m + 1 ∧ DS nr V v w
/-- .. quotient and rest. -/
def DQ (n m A D : Nat) (v : Value) (w : World) : Prop := ∃ qv rv, v = .tuple #[qv, rv] ∧ DS n (A / D) qv w ∧ DR m (A % D) rv w
/-- Nothing that was there has turned. -/
def RN (w w' : World) : Prop := w.heap.size ≤ w'.heap.size ∧ ∀ (k : Nat), k < w.heap.size → w'.heap[k]? = w.heap[k]?
theorem RN.refl (w : World) : RN w w := ⟨Nat.le_refl _, fun _ _ => rfl⟩
theorem RN.of {w w' : World} (h : Below w.heap.size w w') : RN w w' := ⟨h.size, fun k hk => h.block k hk⟩
theorem DS.keep {n V : Nat} {v : Value} {w w' : World} (hR : RN w w') (h : DS n V v w) : DS n V v w' := by
  obtain ⟨b, cap, d, hv, hD, h1, h2⟩ := h
  exact ⟨b, cap, d, hv, ⟨Nat.lt_of_lt_of_le hD.1 hR.1, fun j hj => (World.cell?_of_block (w := w) (a := ⟨b, j, none⟩) (hR.2 b hD.1)).trans (hD.2 j hj)⟩, h1, h2⟩
theorem DR.keep {m V : Nat} {v : Value} {w w' : World} (hR : RN w w') (h : DR m V v w) : DR m V v w' := by
  obtain ⟨nr, h1, h2⟩ := h; exact ⟨nr, h1, h2.keep hR⟩
theorem DQ.keep {n m A D : Nat} {v : Value} {w w' : World} (hR : RN w w') (h : DQ n m A D v w) : DQ n m A D v w' := by
  obtain ⟨q, r, h1, h2, h3⟩ := h; exact ⟨q, r, h1, h2.keep hR, h3.keep hR⟩
theorem mk_ds {n V : Nat} {w w' : World} {e : Ending} (h : MkDg n V w e w') : ∃ v, e = .returned v ∧ Below w.heap.size w w' ∧ DS n V v w' := by
  obtain ⟨b, cap, d, rfl, -, hD, h1, h2, hb⟩ := h
  exact ⟨_, rfl, hb, b, cap, d, rfl, hD, h1, h2⟩
theorem mk_dq {n m A D : Nat} {w w' : World} {e : Ending} (h : DivPostR n m A D w e w') : ∃ v, e = .returned v ∧ Below w.heap.size w w' ∧ DQ n m A D v w' := by
  obtain ⟨Q, g, nr, cap, q, dr, rfl, hQ, hg, hl, hq, hr, h1, h2, hb⟩ := h
  exact ⟨_, rfl, hb, _, _, rfl, ⟨Q, n, q, rfl, hQ, hq, h1⟩, nr, hl, g, cap, dr, rfl, hg, hr, h2⟩
theorem digits_ds (x : Nat) (w : World) : Calls Tryd.prog 15 #[wv x] w fun e w' => ∃ v, e = .returned v ∧ Below w.heap.size w w' ∧ DS 16 (x % 115792089237316195423570985008687907853269984665640564039457584007913129639936) v w' := (digits_any x w).mono fun _ _ h => mk_ds h
theorem divide_ds {n m A D : Nat} {a b : Value} {w : World} (hn : n ≤ 100) (hm : m ≤ 100) (hD : 0 < D) (ha : DS n A a w) (hb : DS m D b w) : Calls Tryd.prog 44 #[a, b] w fun e w' => ∃ v, e = .returned v ∧ Below w.heap.size w w' ∧ DQ n m A D v w' := by
  obtain ⟨ba, ca, da, rfl, hA, hal, rfl⟩ := ha
  obtain ⟨bb, cb, db, rfl, hB, hbl, rfl⟩ := hb
  exact (divide_ref ba ca bb cb n m da db (by omega) (by omega) hal hbl hD w hA hB).mono fun _ _ h => mk_dq h
theorem sum_ds {n m A B : Nat} {a b : Value} {w : World} (hn : n ≤ 100) (hm : m ≤ 100) (ha : DS n A a w) (hb : DS m B b w) : Calls Tryd.prog 26 #[a, b] w fun e w' => ∃ v, e = .returned v ∧ Below w.heap.size w w' ∧ DS (max n m + 1) (A + B) v w' := by
  obtain ⟨ba, ca, da, rfl, hA, hal, rfl⟩ := ha
  obtain ⟨bb, cb, db, rfl, hB, hbl, rfl⟩ := hb
  exact (sum_any ba ca bb cb n m da db (by omega) (by omega) hal hbl w hA hB).mono fun _ _ h => mk_ds h
theorem product_ds {n m A B : Nat} {a b : Value} {w : World} (hn : n ≤ 100) (hm : m ≤ 100) (ha : DS n A a w) (hb : DS m B b w) : Calls Tryd.prog 27 #[a, b] w fun e w' => ∃ v, e = .returned v ∧ Below w.heap.size w w' ∧ DS (n + m) (A * B) v w' := by
  obtain ⟨ba, ca, da, rfl, hA, hal, rfl⟩ := ha
  obtain ⟨bb, cb, db, rfl, hB, hbl, rfl⟩ := hb
  exact (product_digits ba ca bb cb n m da db (by omega) (by omega) hal hbl w hA hB).mono fun _ _ h => mk_ds h

theorem eqz_run (y : Nat) (b : Bool) (hb : decide (y % 115792089237316195423570985008687907853269984665640564039457584007913129639936 = 0) = b) (w : World) : (binOp BinOp.eql 24 (.agg (pw y)) (.agg #[.int .u64 0, .int .u64 0, .int .u64 0, .int .u64 0])).run Tryd.prog w = .ok (.bool b) w := by
  obtain ⟨y0, y1, y2, y3, u0, u1, u2, u3, ey, ny⟩ := wv_parts y
  rw [wv_pw] at ey
  rw [ey]
  have h : ∀ w, (Op.equalIn 10000 24 (.agg #[.int .u64 y0, .int .u64 y1, .int .u64 y2, .int .u64 y3]) (.agg #[.int .u64 0, .int .u64 0, .int .u64 0, .int .u64 0])).run Tryd.prog w = .ok b w := fun w => by
    have := eqW y0 y1 y2 y3 0 0 0 0 w
    have e : ((y0 == 0) && ((y1 == 0) && ((y2 == 0) && (y3 == 0)))) = b := by
      rw [← hb, ← ny, Bool.eq_iff_iff]
      simp only [Bool.and_eq_true, beq_iff_eq, decide_eq_true_eq]
      unfold n4; omega
    rw [e] at this
    exact this
  go_simp
theorem eqz_guard (y : Nat) (o1 o2 : Operand) (w : World) : (eqGuard BinOp.eql 24 o1 o2 (.agg (pw y)) (.agg #[.int .u64 0, .int .u64 0, .int .u64 0, .int .u64 0])).run Tryd.prog w = .ok () w := by kernel_rfl
theorem pw_modn (x : Nat) : pw (x % 115792089237316195423570985008687907853269984665640564039457584007913129639936) = pw x := by
  have h := wv_congr (x := x % 115792089237316195423570985008687907853269984665640564039457584007913129639936) (y := x) (Nat.mod_mod _ _)
  rw [wv_pw, wv_pw] at h
  exact Value.agg.inj h
theorem pw_nought {y : Nat} (h : y % 115792089237316195423570985008687907853269984665640564039457584007913129639936 = 0) : pw y = #[.int .u64 0, .int .u64 0, .int .u64 0, .int .u64 0] := by
  rw [← pw_modn, h]; kernel_rfl
end Go.Proofs.YtmhgnlngcjckbaaDoor
namespace Go.Proofs.YtmhgnlngcjckbaaDoor
open Go.RowKit
theorem eqi_pw (a b : Nat) (ha : a < 115792089237316195423570985008687907853269984665640564039457584007913129639936) (hb : b < 115792089237316195423570985008687907853269984665640564039457584007913129639936) : ∀ w, (Op.equalIn 10000 24 (.agg (pw a)) (.agg (pw b))).run Tryd.prog w = .ok (decide (a = b)) w := by
  obtain ⟨x0, x1, x2, x3, u0, u1, u2, u3, ex, nx⟩ := wv_parts a
  obtain ⟨y0, y1, y2, y3, v0, v1, v2, v3, ey, ny⟩ := wv_parts b
  rw [wv_pw] at ex ey
  rw [ex, ey]
  intro w
  have h := eqW x0 x1 x2 x3 y0 y1 y2 y3 w
  have e : ((x0 == y0) && ((x1 == y1) && ((x2 == y2) && (x3 == y3)))) = decide (a = b) := by
    rw [Nat.mod_eq_of_lt ha] at nx
    rw [Nat.mod_eq_of_lt hb] at ny
    rw [← nx, ← ny, Bool.eq_iff_iff]
    simp only [Bool.and_eq_true, beq_iff_eq, decide_eq_true_eq]
    unfold n4; omega
  rw [e] at h
  exact h
theorem eqw_run (a b : Nat) (ha : a < 115792089237316195423570985008687907853269984665640564039457584007913129639936) (hb : b < 115792089237316195423570985008687907853269984665640564039457584007913129639936) (w : World) : (binOp BinOp.eql 24 (.agg (pw a)) (.agg (pw b))).run Tryd.prog w = .ok (.bool (decide (a = b))) w := by
  have h := eqi_pw a b ha hb
  obtain ⟨x0, x1, x2, x3, -, -, -, -, ex, -⟩ := wv_parts a
  obtain ⟨y0, y1, y2, y3, -, -, -, -, ey, -⟩ := wv_parts b
  rw [wv_pw] at ex ey
  rw [ex, ey] at h ⊢
  go_simp
theorem new_run (a b : Nat) (ha : a < 115792089237316195423570985008687907853269984665640564039457584007913129639936) (hb : b < 115792089237316195423570985008687907853269984665640564039457584007913129639936) (w : World) : (binOp BinOp.neq 24 (.agg (pw a)) (.agg (pw b))).run Tryd.prog w = .ok (.bool (!decide (a = b))) w := by
  have h := eqi_pw a b ha hb
  obtain ⟨x0, x1, x2, x3, -, -, -, -, ex, -⟩ := wv_parts a
  obtain ⟨y0, y1, y2, y3, -, -, -, -, ey, -⟩ := wv_parts b
  rw [wv_pw] at ex ey
  rw [ex, ey] at h ⊢
  go_simp

theorem br_lit (f : Nat → Nat) : brow f 32 = #[.int .u8 ((f 0 : Nat) : Int), .int .u8 ((f 1 : Nat) : Int), .int .u8 ((f 2 : Nat) : Int), .int .u8 ((f 3 : Nat) : Int), .int .u8 ((f 4 : Nat) : Int), .int .u8 ((f 5 : Nat) : Int), .int .u8 ((f 6 : Nat) : Int), .int .u8 ((f 7 : Nat) : Int), .int .u8 ((f 8 : Nat) : Int), .int .u8 ((f 9 : Nat) : Int), .int .u8 ((f 10 : Nat) : Int), .int .u8 ((f 11 : Nat) : Int), .int .u8 ((f 12 : Nat) : Int), .int .u8 ((f 13 : Nat) : Int), .int .u8 ((f 14 : Nat) : Int), .int .u8 ((f 15 : Nat) : Int), .int .u8 ((f 16 : Nat) : Int), .int .u8 ((f 17 : Nat) : Int), .int .u8 ((f 18 : Nat) : Int), .int .u8 ((f 19 : Nat) : Int), .int .u8 ((f 20 : Nat) : Int), .int .u8 ((f 21 : Nat) : Int), .int .u8 ((f 22 : Nat) : Int), .int .u8 ((f 23 : Nat) : Int), .int .u8 ((f 24 : Nat) : Int), .int .u8 ((f 25 : Nat) : Int), .int .u8 ((f 26 : Nat) : Int), .int .u8 ((f 27 : Nat) : Int), .int .u8 ((f 28 : Nat) : Int), .int .u8 ((f 29 : Nat) : Int), .int .u8 ((f 30 : Nat) : Int), .int .u8 ((f 31 : Nat) : Int)] := brow_full f
theorem neg32 (f : Nat → Nat) (o1 o2 : Operand) (w : World) : (eqGuard BinOp.neq 26 o1 o2 (.agg (brow f 32)) (.agg (brow f 32))).run Tryd.prog w = .ok () w := by kernel_rfl
set_option maxRecDepth 100000 in
set_option maxHeartbeats 2000000 in
theorem eqi32 (f : Nat → Nat) (w : World) : (Op.equalIn 10000 26 (.agg (brow f 32)) (.agg (brow f 32))).run Tryd.prog w = .ok true w := by
  rw [br_lit]
  have u3 := Tryd.underlying5
  have a3' := Tryd.isAgg5
  have z3 := Tryd.sizeOf5
  rw [show (10000 : Nat) = 9999 + 1 from rfl, Op.equalIn]
  simp only [Sem.run_bind, run_underlying Tryd.underlying26, Result.andThen_ok]
  simp only [Std.Legacy.Range.forIn_eq_forIn_range', Std.Legacy.Range.size, Nat.sub_zero, Nat.add_sub_cancel, Nat.div_one, List.range'_succ, List.range'_zero, List.forIn_cons, List.forIn_nil]
  go_simp
theorem neb32 (f : Nat → Nat) (w : World) : (binOp BinOp.neq 26 (.agg (brow f 32)) (.agg (brow f 32))).run Tryd.prog w = .ok (.bool false) w := by
  have h := eqi32 f
  go_simp
theorem info32 : (Tryd.prog.info? 26).map (·.size) = some 32 := by kernel_rfl
theorem store_32 {g : Nat} {f : Nat → Nat} {w : World} {cs : Array Value} (hs : cs.size = 32) (hg : w.heap[g]? = some (.cells cs 26 (0, 0))) : (Instr.storeAt 26 (.pointer (some ⟨g, 0, none⟩)) (.agg (brow f 32))).run Tryd.prog w = .ok () (w.setRow g (brow f 32)) := by
  simp only [Instr.storeAt, Instr.sureAddr, Sem.run_bind, Sem.run_pure, Result.andThen_ok, run_storeVar_row w g 26 26 cs (brow f 32) hg (by rw [brow_size]; exact info32) (by rw [hs, brow_size]) (brow_one _ _)]
theorem ld_32 {g : Nat} {f : Nat → Nat} {w : World} (hg : w.heap[g]? = some (.cells (brow f 32) 26 (0, 0))) : (Instr.loadAt 26 (.pointer (some ⟨g, 0, none⟩))).run Tryd.prog w = .ok (.agg (brow f 32)) w := by
  simp only [Instr.loadAt, Instr.sureAddr, Sem.run_bind, Sem.run_pure, Result.andThen_ok, run_loadVar_row w g 26 26 (brow f 32) (0, 0) _ hg Tryd.underlying26 rfl (by rw [brow_size]; exact info32)]
end Go.Proofs.YtmhgnlngcjckbaaDoor
namespace Go.Proofs.YtmhgnlngcjckbaaDoor
open Go.RowKit

section
variable {P : Program} {ops : Array Oper} {Q : Exit → Act → World → Prop} {C : (Nat → Value) → World → Prop} {φ : Nat → (Nat → Value) → World → Prop} {R : (Nat → Value) → World → World → Prop} {a0 : Act}

def StepU (P : Program) (ops : Array Oper) (Q : Exit → Act → World → Prop) (C : (Nat → Value) → World → Prop) (φ : Nat → (Nat → Value) → World → Prop) (R : (Nat → Value) → World → World → Prop) (k : Nat) (o : Oper) (a : Act) (w : World) : Prop :=
  if Region.wanted o (yielded ops a.tmps) then o.wp P a w (fun a' w' => ∃ v, a' = a.put o.dst v ∧ C (slots (a.put o.dst v)) w' ∧ φ k (slots (a.put o.dst v)) w' ∧ R (slots a) w w') Q else (C (slots (a.put o.dst undef)) w ∧ φ k (slots (a.put o.dst undef)) w)
def StepsU (P : Program) (ops : Array Oper) (Q : Exit → Act → World → Prop) (C : (Nat → Value) → World → Prop) (φ : Nat → (Nat → Value) → World → Prop) (R : (Nat → Value) → World → World → Prop) (a0 : Act) : Nat → List Oper → Prop
  | _, [] => True
  | k, o :: l => (∀ a w, C (slots a) w → a.tmps.size = a0.tmps.size → KnownT ops φ a0 o a w → StepU P ops Q C φ R k o a w) ∧ StepsU P ops Q C φ R a0 (k + 1) l
theorem StepsU.at_ : ∀ {l : List Oper} {k : Nat}, StepsU P ops Q C φ R a0 k l → ∀ (i : Nat) (o : Oper), l[i]? = some o → ∀ a w, C (slots a) w → a.tmps.size = a0.tmps.size → KnownT ops φ a0 o a w → StepU P ops Q C φ R (k + i) o a w
  | [], _, _, i, o, hi => by simp at hi
  | o :: l, k, h, 0, o', hi => by simp at hi; subst hi; exact h.1
  | o :: l, k, h, i + 1, o', hi => by
    have := StepsU.at_ h.2 i o' (by simpa using hi)
    rwa [show k + 1 + i = k + (i + 1) by omega] at this

theorem wpAny_tie2 (rd : Nat → List Nat) (rk : Nat → Nat) (hdist : distinctB ops.toList = true) (hlex : rankB ops rk = true) (hon : ∀ (i : Nat) (o : Oper), ops[i]? = some o → ∀ e ∈ o.after, e.on < ops.size) (hown : ownB ops rd = true)
    (hrd : ∀ i s s' w, (∀ t ∈ rd i, s t = s' t) → φ i s w → φ i s' w)
    (hφ : ∀ i s w w', C s w → R s w w' → φ i s w → φ i s w') (hst : StepsU P ops Q C φ R a0 0 ops.toList)
    (hQ : ∀ (f : Oper → Value) w, C (slots (putAll f ops.toList a0)) w → (∀ i o, ops[i]? = some o → φ i (slots (putAll f ops.toList a0)) w) → Q .normal (putAll f ops.toList a0) w) :
    ∀ (fuel : Nat) (listed : Array Bool) (a : Act) (w : World), listed.size = ops.size → listed.toList.count false ≤ fuel → C (slots a) w → a.tmps.size = a0.tmps.size → a.defers = a0.defers →
      (∀ t, isDst ops.toList t = false → a.tmps.getD t undef = a0.tmps.getD t undef) → (∀ i o, listed.getD i false = true → ops[i]? = some o → φ i (slots a) w ∧ ∀ e ∈ o.after, Region.binds .any e = true → listed.getD e.on false = true) → wpAny P .any ops Q fuel listed a w := by
  have done : ∀ (listed : Array Bool) (a : Act) (w : World), (∀ i, i < ops.size → listed.getD i false = true) → C (slots a) w → a.tmps.size = a0.tmps.size → a.defers = a0.defers →
      (∀ t, isDst ops.toList t = false → a.tmps.getD t undef = a0.tmps.getD t undef) → (∀ i o, listed.getD i false = true → ops[i]? = some o → φ i (slots a) w ∧ ∀ e ∈ o.after, Region.binds .any e = true → listed.getD e.on false = true) → Q .normal a w := by
    intro listed a w hall hC hs hd hk hp
    have hb := put_back hs hd hk
    rw [hb]
    exact hQ _ w (by rw [← hb]; exact hC) (fun i o ho => by rw [← hb]; exact (hp i o (hall i (Array.getElem?_eq_some_iff.1 ho).1) ho).1)
  intro fuel
  induction fuel with
  | zero =>
    intro listed a w hsz hc hC hs hd hk hp
    have hno : false ∉ listed.toList := List.count_eq_zero.1 (by omega)
    have hall : ∀ i, i < ops.size → listed.getD i false = true := fun i hi => by
      have hlt : i < listed.size := by omega
      have hm : listed[i] ∈ listed.toList := by simp
      simp only [Array.getD_eq_getD_getElem?, hlt, Array.getElem?_eq_getElem, Option.getD_some]
      cases h : listed[i] with
      | true => rfl
      | false => rw [h] at hm; exact absurd hm hno
    refine ⟨?_, done listed a w hall hC hs hd hk hp⟩
    rw [List.eq_nil_iff_forall_not_mem]
    intro j hj
    obtain ⟨h0, o, ho, -⟩ := mem_ready.1 hj
    have hlt := (Array.getElem?_eq_some_iff.1 ho).1
    have h1 := hall j hlt
    simp [show j < listed.size by omega] at h0 h1
    rw [h0] at h1
    cases h1
  | succ fuel ih =>
    intro listed a w hsz hc hC hs hd hk hp
    refine ⟨fun hr => ?_, fun i hi => ?_⟩
    · refine done listed a w ?_ hC hs hd hk hp
      -- the least that isn't listed would be ready
      have key : ∀ r i, rk i < r → i < ops.size → listed.getD i false = true := by
        intro r
        induction r with
        | zero => intro i h; omega
        | succ r ihr =>
          intro i hri hi
          cases h : listed.getD i false with
          | true => rfl
          | false =>
            have ho : ops[i]? = some ops[i] := Array.getElem?_eq_getElem hi
            have : i ∈ Region.ready .any ops listed := mem_ready.2 ⟨by simpa [show i < listed.size by omega] using h, ops[i], ho, fun e he hb => by
              have hl := hlex
              unfold rankB at hl
              rw [List.all_eq_true] at hl
              have := hl i (by simpa using hi)
              rw [ho] at this
              simp only [Array.all_eq_true_iff_forall_mem] at this
              have hlt := this e he
              rw [hb] at hlt
              simp at hlt
              exact ihr e.on (by omega) (hon i _ ho e he)⟩
            rw [hr] at this
            cases this
      exact fun i hi => key (rk i + 1) i (by omega) hi
    · obtain ⟨h0, o, ho, hall⟩ := mem_ready.1 hi
      have hlt : i < ops.size := (Array.getElem?_eq_some_iff.1 ho).1
      have hl' : ops.toList[i]? = some o := by simpa using ho
      have hstep := hst.at_ i o hl' a w hC hs ⟨hk, fun e he hb oj hj => (hp e.on oj (by have := hall e he hb; simpa using this) hj).1⟩
      rw [Nat.zero_add] at hstep
      have go : ∀ (v : Value) (w' : World), C (slots (a.put o.dst v)) w' → φ i (slots (a.put o.dst v)) w' → (∀ j, φ j (slots a) w → φ j (slots a) w') → wpAny P .any ops Q fuel (listed.setIfInBounds i true) (a.put o.dst v) w' := by
        intro v w' hC' hv hm
        refine ih _ _ _ (by simpa using hsz) ?_ hC' (by rw [put_size]; exact hs) (by rw [put_defers]; exact hd) ?_ ?_
        · have hil : i < listed.size := by omega
          have e0 : listed[i] = false := by simpa [hil] using h0
          rw [Array.toList_setIfInBounds, List.count_set (by simpa using hil)]
          have : listed.toList[i]'(by simpa using hil) = false := by simpa using e0
          simp only [this]
          simp
          have hpos : 0 < listed.toList.count false := List.count_pos_iff.2 (by rw [← e0]; simp)
          simp at hpos
          simp at hc
          omega
        · intro t ht
          have hne : o.dst ≠ some t := fun e => by
            simp only [isDst, List.any_eq_false] at ht
            exact ht o (List.mem_of_getElem? hl') (by simp [e])
          rw [put_other _ _ _ _ hne]
          exact hk t ht
        · intro j oj hj hoj
          by_cases e : i = j
          · subst e
            have : oj = o := Option.some.inj (hoj.symm.trans ho)
            subst this
            refine ⟨hv, fun e he hb => ?_⟩
            have h1 := hall e he hb
            by_cases q : i = e.on
            · rw [← q]; exact getD_set_same (by omega)
            · rw [getD_set_ne false q]; simpa using h1
          · rw [getD_set_ne false e] at hj
            obtain ⟨h1, h2⟩ := hp j oj hj hoj
            refine ⟨hrd j _ _ w' (fun t ht => ?_) (hm _ h1), fun e' he hb => ?_⟩
            · have hne : o.dst ≠ some t := fun hd' => by
                rcases own_spec hown hoj ht with h3 | h3 | ⟨e', he, hb, ok, hok, hkd⟩
                · exact distinct_spec hdist i j o oj t hl' (by simpa using hoj) e hd' h3
                · simp only [isDst, List.any_eq_false] at h3
                  exact h3 o (List.mem_of_getElem? hl') (by simp [hd'])
                · have h4 := h2 e' he hb
                  have h5 : i ≠ e'.on := fun q => by rw [← q, getD_both h0] at h4; cases h4
                  exact distinct_spec hdist i e'.on o ok t hl' (by simpa using hok) h5 hd' hkd
              exact (put_other _ _ _ _ hne).symm
            · by_cases q : i = e'.on
              · rw [← q]; exact getD_set_same (by omega)
              · rw [getD_set_ne false q]; exact h2 e' he hb
      unfold wpOp
      rw [ho]
      simp only
      unfold StepU at hstep
      split
      · rename_i hw
        rw [if_pos hw] at hstep
        refine .inl (Oper.wp_mono ?_ hstep)
        rintro a' w' ⟨v, rfl, hC', hv, hR⟩
        exact go v w' hC' hv (fun j h => hφ j _ w w' hC hR h)
      · rename_i hw
        rw [if_neg hw] at hstep
        exact go undef w hstep.1 hstep.2 (fun j h => h)

/-- THE LAW. -/
theorem region_tie2 {id : Nat} {l : List Oper} {w : World} (C : (Nat → Value) → World → Prop) (φ : Nat → (Nat → Value) → World → Prop) (R : (Nat → Value) → World → World → Prop) (rd : Nat → List Nat) (rk : Nat → Nat) (hm : P.follows .mixedOrders = true)
    (hB : (distinctB l && rankB l.toArray rk && ownB l.toArray rd && insideB l.toArray) = true) (hC : C (slots a0) w.drew)
    (hrd : ∀ i s s' w, (∀ t ∈ rd i, s t = s' t) → φ i s w → φ i s' w) (hφ : ∀ i s w w', C s w → R s w w' → φ i s w → φ i s w') (hst : StepsU P l.toArray Q C φ R a0 0 l)
    (hQ : ∀ (f : Oper → Value) w, C (slots (putAll f l a0)) w → (∀ i o, l[i]? = some o → φ i (slots (putAll f l a0)) w) → Q .normal (putAll f l a0) w) : (Code.region id l.toArray true).wp P Q a0 w := by
  simp only [Bool.and_eq_true] at hB
  refine wp_region_any hm (wpAny_tie2 (C := C) (φ := φ) (R := R) (a0 := a0) rd rk hB.1.1.1 hB.1.1.2 (inside_spec hB.2) hB.1.2 hrd hφ hst (fun f w hC h => hQ f w hC (fun i o ho => h i o (by simpa using ho))) _ _ _ w.drew (by simp) (by simp) hC rfl rfl (fun _ _ => rfl) ?_)
  intro i o hi
  simp at hi
  rcases Nat.lt_or_ge i l.length with h | h
  · simp [h] at hi
  · simp [Nat.not_lt.2 h] at hi

/-! What each kind of operation must do. -/
theorem uu_val {k : Nat} {o : Oper} {a : Act} {w : World} (v : Value) (hw : Region.wanted o (yielded ops a.tmps) = true) (hr : (execOp a.eval o).run P w = .ok (.value v) w) (hC : C (slots (a.put o.dst v)) w) (hv : φ k (slots (a.put o.dst v)) w) (hR : R (slots a) w w) : StepU P ops Q C φ R k o a w := by
  unfold StepU
  rw [if_pos hw]
  unfold Oper.wp
  rw [hr]
  exact ⟨v, rfl, hC, hv, hR⟩
theorem uu_skip {k : Nat} {o : Oper} {a : Act} {w : World} (hw : Region.wanted o (yielded ops a.tmps) = false) (hC : C (slots (a.put o.dst undef)) w) (hv : φ k (slots (a.put o.dst undef)) w) : StepU P ops Q C φ R k o a w := by
  unfold StepU
  rw [if_neg (by rw [hw]; exact Bool.false_ne_true)]
  exact ⟨hC, hv⟩
theorem uu_new {k : Nat} {o : Oper} {a : Act} {w w' : World} (v : Value) (hw : Region.wanted o (yielded ops a.tmps) = true) (hr : (execOp a.eval o).run P w = .ok (.value v) w') (hC : C (slots (a.put o.dst v)) w') (hv : φ k (slots (a.put o.dst v)) w') (hR : R (slots a) w w') : StepU P ops Q C φ R k o a w := by
  unfold StepU
  rw [if_pos hw]
  unfold Oper.wp
  rw [hr]
  exact ⟨v, rfl, hC, hv, hR⟩
theorem uu_v {k : Nat} {o : Oper} {a : Act} {w w' : World} (s : Sem Value) (v : Value) (hw : Region.wanted o (yielded ops a.tmps) = true) (ho : execOp a.eval o = (do let x ← s; pure (.value x))) (hr : s.run P w = .ok v w') (hC : C (slots (a.put o.dst v)) w') (hv : φ k (slots (a.put o.dst v)) w') (hR : R (slots a) w w') : StepU P ops Q C φ R k o a w :=
  uu_new v hw (by rw [ho]; simp only [Sem.run_bind, hr, Result.andThen_ok, Sem.run_pure]) hC hv hR
theorem uu_load {k : Nat} {o : Oper} {a : Act} {w : World} (T : TypeId) (x : Operand) (p v : Value) (ho : o.op = .load T x) (hw : Region.wanted o (yielded ops a.tmps) = true) (hp : a.eval x = p)
    (hr : (Instr.loadAt T p).run P w = .ok v w) (hC : C (slots (a.put o.dst v)) w) (hv : φ k (slots (a.put o.dst v)) w) (hR : R (slots a) w w) : StepU P ops Q C φ R k o a w :=
  uu_val v hw (by
    unfold execOp
    rw [ho]
    simp only [hp, Sem.run_bind, hr, Result.andThen_ok, Sem.run_pure]) hC hv hR
theorem uu_call {k : Nat} {o : Oper} {a : Act} {w : World} (f : FuncId) (args : Array Value) (hw : Region.wanted o (yielded ops a.tmps) = true) (he : (execOp a.eval o).run P w = .ok (.enter f args) w)
    (hc : Calls P f args w fun e w' => ∃ v, e = .returned v ∧ C (slots (a.put o.dst v)) w' ∧ φ k (slots (a.put o.dst v)) w' ∧ R (slots a) w w') : StepU P ops Q C φ R k o a w := by
  unfold StepU
  rw [if_pos hw]
  unfold Oper.wp
  rw [he]
  refine Calls.mono hc ?_
  rintro e w' ⟨v, rfl, h1, h2, h3⟩
  exact ⟨v, rfl, h1, h2, h3⟩
theorem uu_store {k : Nat} {o : Oper} {a : Act} {w w' : World} (hw : Region.wanted o (yielded ops a.tmps) = true) (hd : o.dst = none) (hr : (execOp a.eval o).run P w = .ok .skip w') (hC : C (slots a) w') (hv : φ k (slots a) w') (hR : R (slots a) w w') : StepU P ops Q C φ R k o a w := by
  unfold StepU
  rw [if_pos hw]
  unfold Oper.wp
  rw [hr]
  refine ⟨undef, by rw [hd], ?_, ?_, hR⟩
  · rw [hd]; exact hC
  · rw [hd]; exact hv
end
end Go.Proofs.YtmhgnlngcjckbaaDoor
namespace Go.Proofs.YtmhgnlngcjckbaaDoor
open Go.RowKit

/-- What is known behind an operation: of its slot, and of the block at which a slot points. -/
inductive Sp
  | val (d : Nat) (v : Value)
  | blk (d : Nat) (T : TypeId)
  | laid (p : Nat) (T : TypeId)
  | own (d : Nat) (f : Value → World → Prop)
  | none

/-- J: what is laid into the block at which a slot points. -/
def Sp.at_ (H : Nat) (J : Nat → Array Value) : Sp → (Nat → Value) → World → Prop
  | .val d v, s, _ => s d = v
  | .blk d T, s, w => ∃ D, s d = .pointer (some ⟨D, 0, Option.none⟩) ∧ H ≤ D ∧ ∃ cs : Array Value, w.heap[D]? = some (.cells cs T (0, 0)) ∧ cs.size = (J d).size
  | .laid p T, s, w => ∃ D, s p = .pointer (some ⟨D, 0, Option.none⟩) ∧ H ≤ D ∧ w.heap[D]? = some (.cells (J p) T (0, 0))
  | .own d f, s, w => f (s d) w
  | .none, _, _ => True
def Sp.rd : Sp → List Nat
  | .val d _ => [d]
  | .blk d _ => [d]
  | .laid p _ => [p]
  | .own d _ => [d]
  | .none => []
def Sp.ok (ps : List Nat) : Sp → Prop
  | .own _ f => ps = [] ∧ ∀ v wa wb, Below wa.heap.size wa wb → f v wa → f v wb
  | .blk d _ => d ∈ ps
  | .laid d _ => d ∈ ps
  | _ => True
def spAt (L : List Sp) (i : Nat) : Sp := L.getD i .none
def okL (ps : List Nat) : List Sp → Prop
  | [] => True
  | p :: l => p.ok ps ∧ okL ps l
theorem okL.at_ {ps : List Nat} : ∀ {L : List Sp}, okL ps L → ∀ i, (spAt L i).ok ps
  | [], _, i => by simp [spAt, Sp.ok]
  | p :: l, h, 0 => by simpa [spAt] using h.1
  | p :: l, h, i + 1 => by simpa [spAt] using okL.at_ h.2 i
theorem Sp.same {H : Nat} {J : Nat → Array Value} {p : Sp} {s s' : Nat → Value} {w : World} (h : ∀ t ∈ p.rd, s t = s' t) (hp : p.at_ H J s w) : p.at_ H J s' w := by
  cases p with
  | val d v => exact (h d (by simp [Sp.rd])).symm.trans hp
  | blk d T => obtain ⟨D, h1, h2⟩ := hp; exact ⟨D, (h d (by simp [Sp.rd])).symm.trans h1, h2⟩
  | laid d T => obtain ⟨D, h1, h2⟩ := hp; exact ⟨D, (h d (by simp [Sp.rd])).symm.trans h1, h2⟩
  | own d f => have e := h d (by simp [Sp.rd]); exact (congrArg (fun v => f v w) e).mp hp
  | none => trivial

/-- Where the results lie (ps: the slots of their addresses): behind what was there, and apart. What lay in these slots ahead of the region points below H. -/
structure AN (ps : List Nat) (H : Nat) (s : Nat → Value) (wx : World) : Prop where
  at_ : ∀ p ∈ ps, ∀ q ∈ ps, p ≠ q → ∀ D, s p = .pointer (some ⟨D, 0, none⟩) → H ≤ D → D < wx.heap.size
  ne : ∀ p ∈ ps, ∀ q ∈ ps, p ≠ q → ∀ D E, s p = .pointer (some ⟨D, 0, none⟩) → s q = .pointer (some ⟨E, 0, none⟩) → H ≤ D → H ≤ E → D ≠ E
theorem AN.start {ps : List Nat} {H : Nat} {s : Nat → Value} {wx : World} (h : ∀ p ∈ ps, ∀ q ∈ ps, p ≠ q → ∀ D, s p = .pointer (some ⟨D, 0, none⟩) → D < H) : AN ps H s wx :=
  ⟨fun p hp q hq hne D e hl => (by have := h p hp q hq hne D e; omega), fun p hp q hq hne D _ e _ hl _ => (by have := h p hp q hq hne D e; omega)⟩
theorem AN.put {ps : List Nat} {H : Nat} {s s' : Nat → Value} {wx w' : World} (h : AN ps H s wx) (e : ∀ p ∈ ps, s' p = s p) (hl : wx.heap.size ≤ w'.heap.size) : AN ps H s' w' :=
  ⟨fun p hp q hq hne D hD hh => Nat.lt_of_lt_of_le (h.at_ p hp q hq hne D ((e p hp) ▸ hD) hh) hl, fun p hp q hq hne D E h1 h2 => h.ne p hp q hq hne D E ((e p hp) ▸ h1) ((e q hq) ▸ h2)⟩
theorem AN.new {ps : List Nat} {H t : Nat} {s s' : Nat → Value} {wx w' : World} (h : AN ps H s wx) (e : s' t = .pointer (some ⟨wx.heap.size, 0, none⟩)) (eo : ∀ p ∈ ps, p ≠ t → s' p = s p) (hl : wx.heap.size < w'.heap.size) : AN ps H s' w' := by
  have ge : ∀ p ∈ ps, ∀ D, s' p = .pointer (some ⟨D, 0, none⟩) → p ≠ t → s p = .pointer (some ⟨D, 0, none⟩) := fun p hp D hD hne => (eo p hp hne) ▸ hD
  refine ⟨fun p hp q hq hne D hD hh => ?_, fun p hp q hq hne D E h1 h2 hh he => ?_⟩
  · by_cases r : p = t
    · subst r; rw [e] at hD; cases hD; exact hl
    · have := h.at_ p hp q hq hne D (ge p hp D hD r) hh; omega
  · by_cases a : p = t
    · subst a
      rw [e] at h1; cases h1
      have := h.at_ q hq p hp (Ne.symm hne) E (ge q hq E h2 (Ne.symm hne)) he
      omega
    · by_cases b : q = t
      · subst b
        rw [e] at h2; cases h2
        have := h.at_ p hp q hq hne D (ge p hp D h1 a) hh
        omega
      · exact h.ne p hp q hq hne D E (ge p hp D h1 a) (ge q hq E h2 b) hh he
/-- What a step does to what was there: nothing, or one of the results is laid. -/
def RNM (H : Nat) (ps : List Nat) (J : Nat → Array Value) (s : Nat → Value) (wa wb : World) : Prop := Below wa.heap.size wa wb ∨ ∃ p ∈ ps, ∃ D, s p = .pointer (some ⟨D, 0, none⟩) ∧ H ≤ D ∧ wb = wa.setRow D (J p)
theorem RNM.same {H : Nat} {ps : List Nat} {J : Nat → Array Value} {s : Nat → Value} (wa : World) : RNM H ps J s wa wa := .inl (Below.refl _ _)
/-- The worlds: what was there is as it was. -/
def CM (w : World) (ps : List Nat) (s : Nat → Value) (wx : World) : Prop := Below w.heap.size w wx ∧ AN ps w.heap.size s wx
theorem Sp.keep {w : World} {ps : List Nat} {J : Nat → Array Value} {p : Sp} (ho : p.ok ps) {s : Nat → Value} {wa wb : World} (hC : CM w ps s wa) (hR : RNM w.heap.size ps J s wa wb) (hp : p.at_ w.heap.size J s wa) : p.at_ w.heap.size J s wb := by
  cases p with
  | val d v => exact hp
  | none => trivial
  | own d f =>
    rcases hR with h | ⟨q, hq, _⟩
    · exact ho.2 _ _ _ h hp
    · rw [ho.1] at hq; cases hq
  | blk d T =>
    obtain ⟨D, h1, hh, cs, h2, h3⟩ := hp
    rcases hR with h | ⟨q, hq, E, hE, he, rfl⟩
    · exact ⟨D, h1, hh, cs, (h.block _ (Array.getElem?_eq_some_iff.1 h2).1).trans h2, h3⟩
    · by_cases e : D = E
      · subst e
        have : q = d := Classical.byContradiction fun hne => hC.2.ne q hq d ho hne D D hE h1 he hh rfl
        subst this
        exact ⟨D, h1, hh, J q, setRow_heap _ _ _ _ _ _ h2, rfl⟩
      · exact ⟨D, h1, hh, cs, (setRow_other _ _ _ _ e).trans h2, h3⟩
  | laid d T =>
    obtain ⟨D, h1, hh, h2⟩ := hp
    rcases hR with h | ⟨q, hq, E, hE, he, rfl⟩
    · exact ⟨D, h1, hh, (h.block _ (Array.getElem?_eq_some_iff.1 h2).1).trans h2⟩
    · by_cases e : D = E
      · subst e
        have : q = d := Classical.byContradiction fun hne => hC.2.ne q hq d ho hne D D hE h1 he hh rfl
        subst this
        exact ⟨D, h1, hh, setRow_heap _ _ _ _ _ _ h2⟩
      · exact ⟨D, h1, hh, (setRow_other _ _ _ _ e).trans h2⟩

/-- A guarded operation whose guard's value is known. -/
theorem yielded_of {ops : Array Oper} {tmps : Array Value} {j d : Nat} {b : Bool} (hd : (ops[j]?).bind (·.dst) = some d) (hv : tmps.getD d undef = .bool b) : yielded ops tmps j = some b := by
  unfold yielded
  have e : tmps[d]? = some (.bool b) := by
    by_cases h : d < tmps.size
    · rw [Array.getElem?_eq_getElem h]
      simpa [h] using hv
    · simp [h, undef] at hv
  rw [hd]
  simp only [Option.bind_some, e]
theorem wanted_of {ops : Array Oper} {tmps : Array Value} {o : Oper} {j d : Nat} {b : Bool} (hg : o.guard = some (j, b)) (hd : (ops[j]?).bind (·.dst) = some d) (hv : tmps.getD d undef = .bool b) : Region.wanted o (yielded ops tmps) = true := by
  unfold Region.wanted
  rw [hg]
  simp only [yielded_of hd hv, beq_self_eq_true]
theorem unwanted_of {ops : Array Oper} {tmps : Array Value} {o : Oper} {j d : Nat} {b c : Bool} (hg : o.guard = some (j, b)) (hd : (ops[j]?).bind (·.dst) = some d) (hv : tmps.getD d undef = .bool c) (hn : (c == b) = false) : Region.wanted o (yielded ops tmps) = false := by
  unfold Region.wanted
  rw [hg]
  simp only [yielded_of hd hv]
  cases b <;> cases c <;> first | rfl | cases hn

section
variable {P : Program} {ops : Array Oper} {Q : Exit → Act → World → Prop} {a0 : Act}
/-- THE LAW. -/
theorem region_many {id : Nat} {l : List Oper} {w : World} (L : List Sp) (ps : List Nat) (J : Nat → Array Value) (rk : Nat → Nat) (hm : P.follows .mixedOrders = true)
    (hB : (distinctB l && rankB l.toArray rk && ownB l.toArray (fun i => (spAt L i).rd) && insideB l.toArray) = true) (hO : okL ps L) (h0 : ∀ p ∈ ps, ∀ q ∈ ps, p ≠ q → ∀ D, a0.tmps.getD p undef = .pointer (some ⟨D, 0, none⟩) → D < w.heap.size)
    (hst : StepsU P l.toArray Q (CM w ps) (fun i s wx => (spAt L i).at_ w.heap.size J s wx) (RNM w.heap.size ps J) a0 0 l)
    (hQ : ∀ (f : Oper → Value) wx, Below w.heap.size w wx → AN ps w.heap.size (slots (putAll f l a0)) wx → (∀ i o, l[i]? = some o → (spAt L i).at_ w.heap.size J (slots (putAll f l a0)) wx) → Q .normal (putAll f l a0) wx) : (Code.region id l.toArray true).wp P Q a0 w :=
  region_tie2 (CM w ps) (fun i s wx => (spAt L i).at_ w.heap.size J s wx) (RNM w.heap.size ps J) (fun i => (spAt L i).rd) rk hm hB ⟨Below.drew (Below.refl _ _), AN.start h0⟩ (fun _ _ _ _ h hp => Sp.same h hp) (fun i _ _ _ hC hR hp => Sp.keep (hO.at_ i) hC hR hp) hst (fun f wx hC hp => hQ f wx hC.1 hC.2 hp)

/-! What each kind of operation must do. -/
variable {w : World} {L : List Sp} {ps : List Nat} {J : Nat → Array Value}
abbrev PhiN (w : World) (L : List Sp) (J : Nat → Array Value) : Nat → (Nat → Value) → World → Prop := fun i s wx => (spAt L i).at_ w.heap.size J s wx
theorem ps_other {ps : List Nat} {a : Act} {d : Nat} {v : Value} (h : ps.all (· != d) = true) : ∀ p ∈ ps, slots (a.put (some d) v) p = slots a p := fun p hp => slots_other a d p v (by
  have := List.all_eq_true.1 h p hp
  have h2 : p ≠ d := by simpa using this
  exact fun e => h2 e.symm)
theorem mm_val {k d : Nat} {o : Oper} {a : Act} {wx : World} (v : Value) (hd : o.dst = some d) (hw : Region.wanted o (yielded ops a.tmps) = true) (hr : (execOp a.eval o).run P wx = .ok (.value v) wx) (hC : CM w ps (slots a) wx) (hps : ps.all (· != d) = true) (hsz : d < a.tmps.size) (hv : spAt L k = .val d v) : StepU P ops Q (CM w ps) (PhiN w L J) (RNM w.heap.size ps J) k o a wx :=
  uu_val v hw hr (by rw [hd]; exact ⟨hC.1, hC.2.put (ps_other hps) (Nat.le_refl _)⟩) (by rw [hd]; show (spAt L k).at_ w.heap.size J _ _; rw [hv]; exact slots_put _ _ _ hsz) (RNM.same _)
theorem mm_skip {k d : Nat} {o : Oper} {a : Act} {wx : World} (hd : o.dst = some d) (hw : Region.wanted o (yielded ops a.tmps) = false) (hC : CM w ps (slots a) wx) (hps : ps.all (· != d) = true) (hsz : d < a.tmps.size) (hv : spAt L k = .val d undef) : StepU P ops Q (CM w ps) (PhiN w L J) (RNM w.heap.size ps J) k o a wx :=
  uu_skip hw (by rw [hd]; exact ⟨hC.1, hC.2.put (ps_other hps) (Nat.le_refl _)⟩) (by rw [hd]; show (spAt L k).at_ w.heap.size J _ _; rw [hv]; exact slots_put _ _ _ hsz)
theorem mm_sem {k d : Nat} {o : Oper} {a : Act} {wx : World} (s : Sem Value) (v : Value) (hd : o.dst = some d) (hw : Region.wanted o (yielded ops a.tmps) = true) (ho : execOp a.eval o = (do let x ← s; pure (.value x))) (hr : s.run P wx = .ok v wx) (hC : CM w ps (slots a) wx) (hps : ps.all (· != d) = true) (hsz : d < a.tmps.size) (hv : spAt L k = .val d v) : StepU P ops Q (CM w ps) (PhiN w L J) (RNM w.heap.size ps J) k o a wx :=
  mm_val v hd hw (by rw [ho]; simp only [Sem.run_bind, hr, Result.andThen_ok, Sem.run_pure]) hC hps hsz hv
theorem mm_load {k d : Nat} {o : Oper} {a : Act} {wx : World} (T : TypeId) (x : Operand) (p v : Value) (hd : o.dst = some d) (ho : o.op = .load T x) (hw : Region.wanted o (yielded ops a.tmps) = true) (hp : a.eval x = p)
    (hr : (Instr.loadAt T p).run P wx = .ok v wx) (hC : CM w ps (slots a) wx) (hps : ps.all (· != d) = true) (hsz : d < a.tmps.size) (hv : spAt L k = .val d v) : StepU P ops Q (CM w ps) (PhiN w L J) (RNM w.heap.size ps J) k o a wx :=
  mm_val v hd hw (by
    unfold execOp
    rw [ho]
    simp only [hp, Sem.run_bind, hr, Result.andThen_ok, Sem.run_pure]) hC hps hsz hv
theorem mm_bin {k d : Nat} {o : Oper} {a : Act} {wx : World} (op : BinOp) (T : TypeId) (x y : Operand) (t : TypeId) (u v r : Value) (hd : o.dst = some d) (ho : o.op = .binOp op T x y t) (hw : Region.wanted o (yielded ops a.tmps) = true) (hx : a.eval x = u) (hy : a.eval y = v)
    (hg : (eqGuard op T x y u v).run P wx = .ok () wx) (hb : (binOp op T u v).run P wx = .ok r wx) (hC : CM w ps (slots a) wx) (hps : ps.all (· != d) = true) (hsz : d < a.tmps.size) (hv : spAt L k = .val d r) : StepU P ops Q (CM w ps) (PhiN w L J) (RNM w.heap.size ps J) k o a wx :=
  mm_val r hd hw (by
    unfold execOp
    rw [ho]
    simp only [hx, hy, Sem.run_bind, hg, hb, Result.andThen_ok, Sem.run_pure]) hC hps hsz hv
theorem mm_call {k d : Nat} {o : Oper} {a : Act} {wx : World} (f : FuncId) (args : Array Value) (v : Value) (hd : o.dst = some d) (hw : Region.wanted o (yielded ops a.tmps) = true) (he : (execOp a.eval o).run P wx = .ok (.enter f args) wx)
    (hc : Calls P f args wx fun e w' => e = .returned v ∧ Below wx.heap.size wx w') (hC : CM w ps (slots a) wx) (hps : ps.all (· != d) = true) (hsz : d < a.tmps.size) (hv : spAt L k = .val d v) : StepU P ops Q (CM w ps) (PhiN w L J) (RNM w.heap.size ps J) k o a wx :=
  uu_call f args hw he (hc.mono fun e w' hh => ⟨v, hh.1, by rw [hd]; exact ⟨hC.1.trans (hh.2.mono hC.1.size), hC.2.put (ps_other hps) hh.2.size⟩, by rw [hd]; show (spAt L k).at_ w.heap.size J _ _; rw [hv]; exact slots_put _ _ _ hsz, .inl hh.2⟩)
/-- A call whose answer is not known by itself. -/
theorem mm_callx {k d : Nat} {o : Oper} {a : Act} {wx : World} (f : FuncId) (args : Array Value) (g : Value → World → Prop) (hd : o.dst = some d) (hw : Region.wanted o (yielded ops a.tmps) = true) (he : (execOp a.eval o).run P wx = .ok (.enter f args) wx)
    (hc : Calls P f args wx fun e w' => ∃ v, e = .returned v ∧ g v w' ∧ Below wx.heap.size wx w') (hC : CM w ps (slots a) wx) (hps : ps.all (· != d) = true) (hsz : d < a.tmps.size) (hv : spAt L k = .own d g) : StepU P ops Q (CM w ps) (PhiN w L J) (RNM w.heap.size ps J) k o a wx :=
  uu_call f args hw he (hc.mono fun e w' ⟨v, h1, h2, h3⟩ => ⟨v, h1, by rw [hd]; exact ⟨hC.1.trans (h3.mono hC.1.size), hC.2.put (ps_other hps) h3.size⟩, by rw [hd]; show (spAt L k).at_ w.heap.size J _ _; rw [hv]; show g _ _; rw [slots_put _ _ _ hsz]; exact h2, .inl h3⟩)
/-- A fresh block. -/
theorem mm_new {k d : Nat} {o : Oper} {a : Act} {wx : World} (T : TypeId) (z : Array Value) (hd : o.dst = some d) (hw : Region.wanted o (yielded ops a.tmps) = true) (hr : (execOp a.eval o).run P wx = .ok (.value (.pointer (some ⟨wx.heap.size, 0, none⟩))) (wx.alloc (.cells z T))) (hC : CM w ps (slots a) wx) (hz : z.size = (J d).size) (hsz : d < a.tmps.size) (hv : spAt L k = .blk d T) : StepU P ops Q (CM w ps) (PhiN w L J) (RNM w.heap.size ps J) k o a wx := by
  have hb : Below wx.heap.size wx (wx.alloc (.cells z T)) := (Below.refl _ _).alloc (Nat.le_refl _) _
  refine uu_new (.pointer (some ⟨wx.heap.size, 0, none⟩)) hw hr ?_ ?_ (.inl hb)
  · rw [hd]
    exact ⟨hC.1.trans (hb.mono hC.1.size), hC.2.new (slots_put _ _ _ hsz) (fun p _ hne => slots_other _ _ _ _ (Ne.symm hne)) (by simp)⟩
  · rw [hd]
    show (spAt L k).at_ w.heap.size J _ _
    rw [hv]
    exact ⟨_, slots_put _ _ _ hsz, hC.1.size, z, heap_alloc_new _ _, hz⟩
/-- .. and what is laid there. -/
theorem mm_store {k p : Nat} {o : Oper} {a : Act} {wx : World} (T : TypeId) (x y : Operand) (v : Value) (hd : o.dst = none) (ho : o.op = .store T x y) (hw : Region.wanted o (yielded ops a.tmps) = true) (hx : a.eval x = slots a p) (hy : a.eval y = v) (hp : p ∈ ps)
    (hk : (Sp.blk p T).at_ w.heap.size J (slots a) wx) (hr : ∀ D cs, wx.heap[D]? = some (.cells cs T (0, 0)) → cs.size = (J p).size → (Instr.storeAt T (.pointer (some ⟨D, 0, none⟩)) v).run P wx = .ok () (wx.setRow D (J p))) (hC : CM w ps (slots a) wx) (hv : spAt L k = .laid p T) : StepU P ops Q (CM w ps) (PhiN w L J) (RNM w.heap.size ps J) k o a wx := by
  obtain ⟨D, h1, hh, cs, h2, h3⟩ := hk
  refine uu_store (w' := wx.setRow D (J p)) hw hd ?_ ⟨below_setRow hC.1 hh _, hC.2.put (fun _ _ => rfl) (by simp)⟩ ?_ (.inr ⟨p, hp, D, h1, hh, rfl⟩)
  · unfold execOp
    rw [ho]
    simp only [hx, h1, hy, Sem.run_bind, hr D cs h2 h3, Result.andThen_ok, Sem.run_pure]
  · show (spAt L k).at_ w.heap.size J _ _
    rw [hv]
    exact ⟨D, h1, hh, setRow_heap _ _ _ _ _ _ h2⟩
end
end Go.Proofs.YtmhgnlngcjckbaaDoor
namespace Go.Proofs.YtmhgnlngcjckbaaDoor
open Go.RowKit

section
variable {P : Program} {ops : Array Oper} {C : World → Prop} {Q : Exit → Act → World → Prop}
theorem wpList_quiet : ∀ (l : List Oper) (a : Act) (w : World), C w → wpQuiet P ops C (fun a' => ∀ w', C w' → Q .normal a' w') l a → wpList P ops Q l a w
  | [], _, w, hC, h => h w hC
  | o :: l, a, w, hC, h => by
    unfold wpQuiet at h
    unfold wpList
    split
    · rename_i hw
      rw [if_pos hw] at h
      exact .inl (Oper.wp_of_quiet hC (fun a' w' hC' hK => wpList_quiet l a' w' hC' hK) h)
    · rename_i hw
      rw [if_neg hw] at h
      exact wpList_quiet l _ w hC h
theorem q_region {id : Nat} {l : List Oper} {a : Act} {w : World} (C : World → Prop) (hC : C w) (h : wpQuiet P l.toArray C (fun a' => ∀ w', C w' → Q .normal a' w') l a) : (Code.region id l.toArray false).wp P Q a w :=
  wp_region_list (by simpa using wpList_quiet l a w hC (by simpa using h))
end
end Go.Proofs.YtmhgnlngcjckbaaDoor
namespace Go.Proofs.YtmhgnlngcjckbaaDoor
open Go.RowKit
theorem load_u64 (g j : Nat) (y : Int) (w : World) (h : w.cell? ⟨g, j, none⟩ = some (.int .u64 y)) : (Instr.loadAt 22 (.pointer (some ⟨g, j, none⟩))).run Tryd.prog w = .ok (.int .u64 y) w := by
  go_simp
theorem ld_pw {g x : Nat} {w : World} (hg : w.heap[g]? = some (.cells (pw x) 24 (0, 0))) : (Instr.loadAt 24 (.pointer (some ⟨g, 0, none⟩))).run Tryd.prog w = .ok (.agg (pw x)) w := load_pw hg
theorem wpList_val {P : Program} {ops : Array Oper} {rest : List Oper} {o : Oper} {a : Act} {w w' : World} {Q : Exit → Act → World → Prop} (hgd : o.guard = none) (v : Value) (hr : (execOp a.eval o).run P w = .ok (.value v) w')
    (h : wpList P ops Q rest (a.put o.dst v) w') : wpList P ops Q (o :: rest) a w :=
  wpList_plain hgd fun _ hK => by
    unfold Oper.wp
    rw [hr]
    exact hK _ _ h
theorem wpList_ld {P : Program} {ops : Array Oper} {rest : List Oper} {o : Oper} {a : Act} {w : World} {Q : Exit → Act → World → Prop} (hgd : o.guard = none) (T : TypeId) (x : Operand) (ho : o.op = .load T x) (p v : Value) (hp : a.eval x = p)
    (hr : (Instr.loadAt T p).run P w = .ok v w) (h : wpList P ops Q rest (a.put o.dst v) w) : wpList P ops Q (o :: rest) a w :=
  wpList_val hgd v (by unfold execOp; rw [ho]; simp only [hp, Sem.run_bind, hr, Result.andThen_ok, Sem.run_pure]) h
theorem q_sem2 {P : Program} {ops : Array Oper} {C : World → Prop} {Q : Act → Prop} {a : Act} {o : Oper} {rest : List Oper} (s : Sem Value) (v : Value) (hw : Region.wanted o (yielded ops a.tmps) = true) (ho : execOp a.eval o = (do let x ← s; pure (.value x))) (hr : ∀ w, C w → s.run P w = .ok v w) (h : wpQuiet P ops C Q rest (a.put o.dst v)) : wpQuiet P ops C Q (o :: rest) a :=
  q_val v hw (fun w hC => by rw [ho]; simp only [Sem.run_bind, hr w hC, Result.andThen_ok, Sem.run_pure]) h
theorem q_un4 {P : Program} {ops : Array Oper} {C : World → Prop} {Q : Act → Prop} {a : Act} {o : Oper} {rest : List Oper} (op : UnOp) (T : TypeId) (x : Operand) (u r : Value) (ho : o.op = .unOp op T x) (hw : Region.wanted o (yielded ops a.tmps) = true) (hx : a.eval x = u)
    (hb : ∀ w, (Op.unary op u).run P w = .ok r w) (h : wpQuiet P ops C Q rest (a.put o.dst r)) : wpQuiet P ops C Q (o :: rest) a :=
  q_val r hw (fun w hC => by
    unfold execOp
    rw [ho]
    simp only [hx, Sem.run_bind, hb w, Result.andThen_ok, Sem.run_pure]) h
theorem run_pick {P : Program} {a : Act} {o : Oper} {w : World} (c x y : Operand) (b : Bool) (r : Value) (ho : o.op = .pick c x y) (hc : a.eval c = .bool b) (hr : (if b = true then a.eval x else a.eval y) = r) : (execOp a.eval o).run P w = .ok (.value r) w := by
  unfold execOp
  rw [ho]
  simp [asBool, hc, hr, Sem.run_pure]
theorem of_wv (n : Nat) (hn : n < 18446744073709551616) (w : World) : Calls Tryd.prog 11 #[.int .u64 n] w fun e w' => e = .returned (.agg (pw n)) ∧ Below w.heap.size w w' := by
  have h := of_walk n w
  rw [← wv_one hn, wv_pw] at h
  exact h
theorem run_app {a : Act} {o : Oper} {w w' : World} (s y : Operand) (vs vy v' : Value) (ho : o.op = .call { callee := .builtin .append, args := #[s, y], argTypes := #[25, 25] }) (hty : o.type = 25) (hs : a.eval s = vs) (hy : a.eval y = vy)
    (hr : (Builtin.append_ #[25, 25] 25 #[vs, vy]).run Tryd.prog w = .ok v' w') : (execOp a.eval o).run Tryd.prog w = .ok (.value v') w' := by
  unfold execOp
  simp only [ho, hty, resolve, invoke, builtin, Sem.run_bind, Sem.run_pure, Result.andThen_ok, List.map_toArray, List.map_cons, List.map_nil, hs, hy, hr]
section
variable {P : Program} {ops : Array Oper} {Q : Exit → Act → World → Prop}
variable {w : World} {L : List Sp} {ps : List Nat} {J : Nat → Array Value}
/-- A step that makes memory, its answer not known by itself. -/
theorem mm_grow {k d : Nat} {o : Oper} {a : Act} {wx : World} (v : Value) (w' : World) (g : Value → World → Prop) (hd : o.dst = some d) (hw : Region.wanted o (yielded ops a.tmps) = true) (hr : (execOp a.eval o).run P wx = .ok (.value v) w') (hb : Below wx.heap.size wx w') (hg : g v w')
    (hC : CM w ps (slots a) wx) (hps : ps.all (· != d) = true) (hsz : d < a.tmps.size) (hv : spAt L k = .own d g) : StepU P ops Q (CM w ps) (PhiN w L J) (RNM w.heap.size ps J) k o a wx :=
  uu_new v hw hr (by rw [hd]; exact ⟨hC.1.trans (hb.mono hC.1.size), hC.2.put (ps_other hps) hb.size⟩) (by rw [hd]; show (spAt L k).at_ w.heap.size J _ _; rw [hv]; show g _ _; rw [slots_put _ _ _ hsz]; exact hg) (.inl hb)
end
end Go.Proofs.YtmhgnlngcjckbaaDoor
namespace Go.Proofs.YtmhgnlngcjckbaaDoor
open Go.RowKit

/-- A listed table outlives whatever leaves what was there. -/
theorem tab_below {w w' : World} {name : String} {k : IntKind} {zs : List Int} (h : Lib.TabIs Tryd.prog w name k zs) (hb : Below w.heap.size w w') : Lib.TabIs Tryd.prog w' name k zs := by
  unfold Lib.TabIs World.var? at *
  cases hg : Tryd.prog.globalNamed name with
  | none => simp [hg] at h
  | some g =>
    simp only [hg, Option.bind_some] at h ⊢
    have hlt : g < w.heap.size := by
      rcases Nat.lt_or_ge g w.heap.size with h' | h'
      · exact h'
      · rw [Array.getElem?_eq_none h'] at h; simp at h
    rw [hb.block g hlt]
    exact h

theorem fmtu_small (u : Nat) (hu : u < 100) (w : World) : Calls Tryd.prog 37 #[.int .u64 u, .int .i64 10] w fun e w' => e = .returned (.string ⟨(Lib.decDigits u).toArray⟩) ∧ Below w.heap.size w w' := by
  have hs : ∀ w, Calls Tryd.prog 55 #[.int .i64 u] w fun e w' => e = .returned (.string ⟨(Lib.decDigits u).toArray⟩) ∧ w = w' := fun w => (Tryd.internal_strconv_small u hu w).mono fun e w' ⟨he, hw⟩ => ⟨he, hw.symm⟩
  have h0 : (0 : Int) ≤ u := by omega
  have h1 : (u : Int) < 100 := by omega
  have HS := Lib.hid hs; clear hs
  go_enter Tryd.func37, Tryd.ntmps37
  go_wp2_with fail
  refine (HS.out _).mono ?_
  rintro e w' ⟨rfl, rfl⟩
  go_wp2
  go_ret
  exact ⟨rfl, Below.refl _ _⟩

set_option maxHeartbeats 6400000 in
set_option maxRecDepth 100000 in
theorem fmtu_big (u : Nat) (hu : 100 ≤ u) (hu64 : u < 18446744073709551616) (w : World) (htab : Lib.TabIs Tryd.prog w "internal/strconv.uint64pow10" .u64 Lib.pow10Tab) : Calls Tryd.prog 37 #[.int .u64 u, .int .i64 10] w fun e w' => e = .returned (.string ⟨(Lib.decDigits u).toArray⟩) ∧ Below w.heap.size w w' := by
  have hu1 : 1 ≤ u := by omega
  have hnd20 : Lib.nDigits u ≤ 20 := by have := Lib.numDigits_eq u hu1 hu64; split at this <;> omega
  have hal : Tryd.prog.arrayLen 89 = 24 := by kernel_rfl
  have hsl : ∀ W, (Instr.sliceAt 89 (.pointer (some ⟨w.heap.size, 0, none⟩)) none (some (.int .i64 (Lib.nDigits u : Int))) none).run Tryd.prog W = .ok (.slice (some ⟨w.heap.size, 0, none⟩) (Lib.nDigits u) 24) W := fun W => by
    have hsz : (sizeOf (Tryd.prog.elem 89)).run Tryd.prog W = .ok 1 W := by kernel_rfl
    rw [run_sliceAt_array_h W 89 ⟨w.heap.size, 0, none⟩ (by kernel_rfl) .i64 (Lib.nDigits u : Int) (by omega) (by rw [hal]; omega), hsz, hal]
    go_simp
  have hH0 : Go.Sort.Holds (fun (b : UInt8) => Value.int .u8 (b.toNat : Int)) (w.alloc (.cells Lib.zeros24 89)) w.heap.size 0 (Array.replicate (Lib.nDigits u) (0 : UInt8)) := fun j hj => by
    have hj' : j < Lib.nDigits u := by simpa using hj
    refine ⟨?_, World.frozen?_alloc_new _ _ _ _⟩
    rw [World.cell?_alloc_new, Lib.zeros24_at _ (by omega), getElem!_pos _ j hj]
    simp
  have hfmt := Tryd.internal_strconv_formatBase10 w.heap.size 0 24 u (Array.replicate (Lib.nDigits u) 0) (w.alloc (.cells Lib.zeros24 89)) hH0 (by rw [Array.size_replicate]; exact Lib.lt_pow_nDigits u) hu64 (by rw [Array.size_replicate]; omega)
  rw [Array.size_replicate] at hfmt
  have HH0 := Lib.hid hH0
  have iu : (100 : Int) ≤ (u : Int) := by omega
  have HTAB := Lib.hid (Lib.tabIs_alloc htab (.cells Lib.zeros24 89))
  have HFMT := Lib.hid hfmt
  clear hH0 hal htab hfmt
  go_enter Tryd.func37, Tryd.ntmps37
  go_wp2_with fail
  refine (Tryd.internal_strconv_numDigits u hu1 hu64 _ HTAB.out).mono ?_
  rintro e w' ⟨rfl, rfl⟩
  go_wp2_with fail
  refine HFMT.out.mono ?_
  rintro e w' ⟨rfl, k, v', dk, rfl, hF⟩
  have hcv : (convert 25 9 (.slice (some ⟨w.heap.size, 0, none⟩) (Lib.nDigits u) 24)).run Tryd.prog ((Go.Sort.putRow (fun (b : UInt8) => Value.int .u8 (b.toNat : Int)) (w.alloc (.cells Lib.zeros24 89)) w.heap.size 0 dk).drewN k) = .ok (.string ⟨(Lib.decDigits u).toArray⟩) ((Go.Sort.putRow (fun (b : UInt8) => Value.int .u8 (b.toNat : Int)) (w.alloc (.cells Lib.zeros24 89)) w.heap.size 0 dk).drewN k) := by
    have h := run_convert_bytes_back (P := Tryd.prog) ((Go.Sort.putRow (fun (b : UInt8) => Value.int .u8 (b.toNat : Int)) (w.alloc (.cells Lib.zeros24 89)) w.heap.size 0 dk).drewN k) 25 9 5 ⟨w.heap.size, 0, none⟩ 24 (Lib.decDigits u) Tryd.underlying25 Tryd.underlying5 Tryd.underlying9 (fun j hj => by
      rw [Lib.row_is_numeral hF j hj, Lib.add_plain, World.cell?_drewN]
      exact Go.Sort.cell?_putRow (fun (b : UInt8) => Value.int .u8 (b.toNat : Int)) _ w.heap.size 0 _ dk HH0.out (by rw [hF.size, Array.size_replicate]) j (by rw [hF.size]; rw [Lib.decDigits_length] at hj; exact hj))
    rw [Lib.decDigits_length] at h
    exact h
  go_wp2
  go_ret
  refine ⟨rfl, ?_⟩
  rw [Go.Sort.alloc_eq_grow]
  obtain ⟨os', _, e⟩ := Go.Sort.putRow_grow_new (fun (b : UInt8) => Value.int .u8 (b.toNat : Int)) w #[.cells Lib.zeros24 89] w.heap.size 0 dk (Nat.le_refl _)
  rw [e]
  exact ⟨rfl, rfl, rfl, by simp [Go.Sort.grow, World.drewN], fun k hk => by simp [Go.Sort.grow, World.drewN, Array.getElem?_append, hk]⟩

theorem fmtu_any (u : Nat) (hu64 : u < 18446744073709551616) (w : World) (htab : Lib.TabIs Tryd.prog w "internal/strconv.uint64pow10" .u64 Lib.pow10Tab) : Calls Tryd.prog 20 #[.int .u64 u, .int .i64 10] w fun e w' => e = .returned (.string ⟨(Lib.decDigits u).toArray⟩) ∧ Below w.heap.size w w' := by
  have h : Calls Tryd.prog 37 #[.int .u64 u, .int .i64 10] w fun e w' => e = .returned (.string ⟨(Lib.decDigits u).toArray⟩) ∧ Below w.heap.size w w' := by
    rcases Nat.lt_or_ge u 100 with hu | hu
    · exact fmtu_small u hu w
    · exact fmtu_big u hu hu64 w htab
  clear htab
  have H := Lib.hid h; clear h
  go_enter Tryd.func20, Tryd.ntmps20
  go_wp2_with fail
  refine H.out.mono ?_
  rintro e w' ⟨rfl, hb⟩
  have HB := Lib.hid hb; clear hb
  go_wp2
  go_ret
  exact ⟨rfl, HB.out⟩
end Go.Proofs.YtmhgnlngcjckbaaDoor
namespace Go.Proofs.YtmhgnlngcjckbaaDoor
open Go.RowKit

/-- The digits of a number, as a string. -/
def decS (x : Nat) : ByteArray := ⟨(Lib.decDigits x).toArray⟩
def slenV : Value → Nat | .string s => s.size | _ => 0
/-- Nineteen digits of a number below 10 to the 19. -/
def dec19 (r : Nat) : List UInt8 := List.replicate (19 - (Lib.decDigits r).length) 48 ++ Lib.decDigits r
theorem dec_split : ∀ (k q r : Nat), 0 < q → r < 10 ^ k → Lib.decDigits (q * 10 ^ k + r) = Lib.decDigits q ++ (List.range k).map fun t => UInt8.ofNat (48 + r / 10 ^ (k - 1 - t) % 10)
  | 0, q, r, _, hr => by
    obtain rfl : r = 0 := by simpa using hr
    simp
  | k + 1, q, r, hq, hr => by
    have h1 : ¬ q * 10 ^ (k + 1) + r < 10 := by
      have : 10 ^ 1 ≤ 10 ^ (k + 1) := Nat.pow_le_pow_right (by omega) (by omega)
      have := Nat.mul_le_mul hq this
      omega
    rw [Lib.decDigits, dif_neg h1]
    have e1 : (q * 10 ^ (k + 1) + r) / 10 = q * 10 ^ k + r / 10 := by rw [Nat.pow_succ, ← Nat.mul_assoc]; omega
    have e2 : (q * 10 ^ (k + 1) + r) % 10 = r % 10 := by rw [Nat.pow_succ, ← Nat.mul_assoc]; omega
    rw [e1, e2, dec_split k q (r / 10) hq (by rw [Nat.div_lt_iff_lt_mul (by omega), ← Nat.pow_succ]; exact hr), List.append_assoc, List.range_succ, List.map_append]
    congr 2
    · apply List.map_congr_left
      intro t ht
      have ht' : t < k := by simpa using ht
      rw [Nat.div_div_eq_div_mul, ← Nat.pow_succ', show k + 1 - 1 - t = (k - 1 - t) + 1 by omega]
    · simp
theorem dec_pad : ∀ (k r : Nat), r < 10 ^ k → 0 < k → List.replicate (k - (Lib.decDigits r).length) 48 ++ Lib.decDigits r = (List.range k).map fun t => UInt8.ofNat (48 + r / 10 ^ (k - 1 - t) % 10)
  | 0, _, _, h => by omega
  | 1, r, hr, _ => by
    have : r < 10 := by simpa using hr
    rw [Lib.decDigits, dif_pos this]
    simp [Nat.mod_eq_of_lt this]
  | k + 2, r, hr, _ => by
    by_cases h : r < 10
    · rw [Lib.decDigits, dif_pos h, List.range_succ, List.map_append]
      congr 1
      · apply List.ext_getElem
        · simp
        · intro i h1 h2
          have hi : i < k + 1 := by simpa using h2
          have : r / 10 ^ (k + 1 - i) = 0 := Nat.div_eq_of_lt (Nat.lt_of_lt_of_le h (by have := Nat.pow_le_pow_right (show 0 < 10 by omega) (show 1 ≤ k + 1 - i by omega); omega))
          simp [this]
      · simp [Nat.mod_eq_of_lt h]
    · rw [Lib.decDigits, dif_neg h]
      have ih := dec_pad (k + 1) (r / 10) (by rw [Nat.div_lt_iff_lt_mul (by omega), ← Nat.pow_succ]; exact hr) (by omega)
      rw [← List.append_assoc, List.length_append, show k + 2 - ((Lib.decDigits (r / 10)).length + [UInt8.ofNat (48 + r % 10)].length) = k + 1 - (Lib.decDigits (r / 10)).length by simp, ih, show List.range (k + 2) = List.range (k + 1) ++ [k + 1] from List.range_succ, List.map_append]
      congr 1
      · apply List.map_congr_left
        intro t ht
        have ht' : t < k + 1 := by simpa using ht
        rw [Nat.div_div_eq_div_mul, ← Nat.pow_succ', show k + 2 - 1 - t = (k + 1 - 1 - t) + 1 by omega]
      · simp
theorem dec_19 {q r : Nat} (hq : 0 < q) (hr : r < 10000000000000000000) : Lib.decDigits (q * 10000000000000000000 + r) = Lib.decDigits q ++ dec19 r := by
  have h := dec_split 19 q r hq (by simpa using hr)
  unfold dec19
  rw [dec_pad 19 r (by simpa using hr) (by omega)]
  exact h

theorem dec_len : ∀ (k x : Nat), x < 10 ^ k → 0 < k → (Lib.decDigits x).length ≤ k
  | 0, _, _, h => by omega
  | k + 1, x, hx, _ => by
    by_cases h : x < 10
    · rw [Lib.decDigits, dif_pos h]; simp
    · rw [Lib.decDigits, dif_neg h]
      have h1 : x / 10 < 10 ^ k := by rw [Nat.div_lt_iff_lt_mul (by omega), ← Nat.pow_succ]; exact hx
      have hk : 0 < k := by
        rcases Nat.eq_zero_or_pos k with rfl | hk
        · simp at hx; omega
        · exact hk
      have := dec_len k (x / 10) h1 hk
      simp; omega
theorem dec_len_pow : ∀ x, 0 < x → 10 ^ ((Lib.decDigits x).length - 1) ≤ x
  | x, hx => by
    by_cases h : x < 10
    · rw [Lib.decDigits, dif_pos h]; simp; omega
    · rw [Lib.decDigits, dif_neg h]
      have ih := dec_len_pow (x / 10) (by omega)
      have hl : 0 < (Lib.decDigits (x / 10)).length := by
        rw [Lib.decDigits]; split <;> simp
      simp only [List.length_append, List.length_singleton, Nat.add_sub_cancel]
      rw [show (Lib.decDigits (x / 10)).length = (Lib.decDigits (x / 10)).length - 1 + 1 by omega, Nat.pow_succ]
      omega
theorem dec_rest {x X : Nat} {s : List UInt8} (hx : x < 115792089237316195423570985008687907853269984665640564039457584007913129639936) (h : Lib.decDigits x = Lib.decDigits X ++ s) : s.length < 78 := by
  have h1 := dec_len 78 x (Nat.lt_trans hx (by decide)) (by omega)
  have h2 : 0 < (Lib.decDigits X).length := by rw [Lib.decDigits]; split <;> simp
  rw [h, List.length_append] at h1
  omega
/-- Ten to the nineteen. -/
def t19 : Nat := 10000000000000000000
theorem ba_append (a b : List UInt8) : (⟨a.toArray⟩ : ByteArray) ++ ⟨b.toArray⟩ = ⟨(a ++ b).toArray⟩ := by
  apply ByteArray.ext
  simp
theorem rep_one : ∀ k, Lib.repeatL [48] k = List.replicate k 48
  | 0 => rfl
  | k + 1 => by
    rw [Lib.repeatL, rep_one k]; rfl
/-- What a round of Decimal keeps. -/
structure DecR (x X : Nat) (s : List UInt8) (w wr : World) : Prop where
  dec : Lib.decDigits x = Lib.decDigits X ++ s
  row : wr.heap[w.heap.size]? = some (.cells (pw X) 24 (0, 0))
  old : Below w.heap.size w wr
  lt : X < 115792089237316195423570985008687907853269984665640564039457584007913129639936
  len : s.length < 100

set_option maxRecDepth 100000 in
set_option maxHeartbeats 4000000 in
theorem decimal_walk (x : Nat) (hx : x < 115792089237316195423570985008687907853269984665640564039457584007913129639936) (w : World) (htab : Lib.TabIs Tryd.prog w "internal/strconv.uint64pow10" .u64 Lib.pow10Tab) :
    Calls Tryd.prog 9 #[.agg (pw x)] w fun e w' => e = .returned (.string (decS x)) ∧ Below w.heap.size w w' := by
  have HTAB := Lib.hid htab; clear htab
  have HX := Lib.hid hx; clear hx
  go_enter Tryd.func9, Tryd.ntmps9
  go_wp2_with fail
  go_loopw [3] (fun sv wr => ∃ (X : Nat) (s : List UInt8), sv = .string ⟨s.toArray⟩ ∧ Hid (DecR x X s w wr)) (fun sv _ => 200 - slenV sv)
  case atStart => exact ⟨x, [], rfl, Lib.hid ⟨by simp, heap_alloc_new _ _, by go_grown, HX.out, by simp⟩⟩
  case round =>
    obtain ⟨X, s, rfl, H⟩ := hrel
    have HW : Hid (∀ w, Calls Tryd.prog 19 #[.agg (pw X), .slice none 0 0] w fun e w' => e = .returned (dv X) ∧ Below w.heap.size w w') := Lib.hid (fun w => by have h := widen_any X w; rw [Nat.mod_eq_of_lt H.out.lt] at h; exact h)
    have HO : Hid (∀ w, Calls Tryd.prog 11 #[.int .u64 10000000000000000000] w fun e w' => e = .returned (wv t19) ∧ Below w.heap.size w w') := Lib.hid (fun w => by rw [wv_one (by unfold t19; omega)]; exact of_walk 10000000000000000000 w)
    have HD : Hid (∀ w, Calls Tryd.prog 18 #[dv X, wv t19] w fun e w' => e = .returned (.tuple #[.agg (dw (X / t19)), .agg (pw (X % t19))]) ∧ Below w.heap.size w w') := Lib.hid (fun w => divide_any X t19 (by have := H.out.lt; omega) (by unfold t19; omega) (by unfold t19; omega) w)
    have hr : X % t19 < t19 := Nat.mod_lt _ (by unfold t19; omega)
    obtain ⟨Q, hQ⟩ : ∃ Q, X / t19 = Q := ⟨_, rfl⟩
    obtain ⟨r, hR⟩ : ∃ r, X % t19 = r := ⟨_, rfl⟩
    rw [hQ, hR] at HD
    rw [hR] at hr
    have HQ := Lib.hid hQ; clear hQ
    have HRR := Lib.hid hR; clear hR
    have HLT := Lib.hid hr; clear hr
    have HN : Hid (∀ w, Calls Tryd.prog 21 #[.agg (dw Q)] w fun e w' => e = .returned (.agg (pw Q)) ∧ Below w.heap.size w w') := Lib.hid (fun w => narrow_any Q w)
    go_wp2_with (refine wpList_load_row rfl 24 _ rfl w.heap.size rfl 24 _ (0, 0) _ H.out.row Tryd.underlying24 rfl infoWord ?_)
    refine (HW.out _).mono ?_
    rintro e w1 ⟨rfl, hb1⟩
    have H1 := Lib.hid hb1; clear hb1
    go_wp2_with fail
    refine (HO.out _).mono ?_
    rintro e w2 ⟨rfl, hb2⟩
    have H2 := Lib.hid (H1.out.trans (hb2.mono H1.out.size)); clear hb2
    go_wp2_with fail
    refine (HD.out _).mono ?_
    rintro e w3 ⟨rfl, hb3⟩
    have H3 := Lib.hid (H2.out.trans (hb3.mono H2.out.size)); clear hb3 H1 H2
    have e1 := (heap2 w3 (.cells #[.int .u64 0, .int .u64 0, .int .u64 0, .int .u64 0, .int .u64 0, .int .u64 0, .int .u64 0, .int .u64 0] 43) (.cells #[.int .u64 0, .int .u64 0, .int .u64 0, .int .u64 0] 24))
    have E1 := Lib.hid e1; clear e1
    have infoWide : (Tryd.prog.info? 43).map (·.size) = some 8 := by kernel_rfl
    have IW := Lib.hid infoWide; clear infoWide
    go_upto_region 3 with (first | (refine wpList_store_row rfl 43 _ _ rfl w3.heap.size (dw Q) rfl rfl 43 #[.int .u64 0, .int .u64 0, .int .u64 0, .int .u64 0, .int .u64 0, .int .u64 0, .int .u64 0, .int .u64 0] E1.out.1 IW.out rfl (dw_one _) ?_) | (refine wpList_store_row rfl 24 _ _ rfl (w3.heap.size + 1) (pw r) rfl rfl 24 #[.int .u64 0, .int .u64 0, .int .u64 0, .int .u64 0] ((setRow_other _ _ _ _ (by omega)).trans E1.out.2) infoWord rfl (pw_one _) ?_))
    have hz3 : w.heap.size < wr.heap.size := (Array.getElem?_eq_some_iff.1 H.out.row).1
    have hz4 : wr.heap.size ≤ w3.heap.size := H3.out.size
    obtain ⟨w4, h4⟩ : ∃ w4, (((w3.alloc (.cells #[.int .u64 0, .int .u64 0, .int .u64 0, .int .u64 0, .int .u64 0, .int .u64 0, .int .u64 0, .int .u64 0] 43)).alloc (.cells #[.int .u64 0, .int .u64 0, .int .u64 0, .int .u64 0] 24)).setRow w3.heap.size (dw Q)).setRow (w3.heap.size + 1) (pw r) = w4 := ⟨_, rfl⟩
    rw [h4]
    have f1 : w4.heap[w3.heap.size]? = some (.cells (dw Q) 43 (0, 0)) := by rw [← h4, setRow_other _ _ _ _ (by omega)]; exact setRow_heap _ _ _ _ _ _ E1.out.1
    have f2 : w4.heap[w3.heap.size + 1]? = some (.cells (pw r) 24 (0, 0)) := by rw [← h4]; exact setRow_heap _ _ _ _ _ _ ((setRow_other _ _ _ _ (by omega)).trans E1.out.2)
    have b4 : Below wr.heap.size wr w4 := by rw [← h4]; exact below_setRow (below_setRow (((H3.out.alloc hz4 _).alloc (by simp; omega) _)) hz4 _) (by omega) _
    clear h4 E1
    have c0 : w4.cell? ⟨w3.heap.size + 1, 0, none⟩ = some (.int .u64 (r : Nat)) := by
      rw [cell_of_row _ _ 0 _ _ _ f2]
      unfold pw
      have := HLT.out
      unfold t19 at this
      rw [Nat.mod_eq_of_lt (by omega)]; rfl
    have r0 : w4.heap[w.heap.size]? = some (.cells (pw X) 24 (0, 0)) := (b4.block _ hz3).trans H.out.row
    have B4 := Lib.hid b4; clear b4
    have htab4 := tab_below HTAB.out (H.out.old.trans (B4.out.mono H.out.old.size))
    have HFM := Lib.hid (fmtu_any r (by have := HLT.out; unfold t19 at this; omega) w4 htab4)
    clear htab4
    have F1 := Lib.hid f1; clear f1 f2
    have R0 := Lib.hid r0; clear r0
    go_wp2_with fail
    refine HFM.out.mono ?_
    rintro e w5 ⟨rfl, hb5⟩
    have z5 : w.heap.size < w4.heap.size := (Array.getElem?_eq_some_iff.1 R0.out).1
    have z6 : w3.heap.size < w4.heap.size := (Array.getElem?_eq_some_iff.1 F1.out).1
    have F5 := Lib.hid ((hb5.block _ z6).trans F1.out)
    have R5 := Lib.hid ((hb5.block _ z5).trans R0.out)
    have B5 := Lib.hid (B4.out.trans (hb5.mono B4.out.size)); clear hb5
    clear c0 z5 z6
    go_wp2_with (refine wpList_load_row rfl 43 _ rfl w3.heap.size rfl 43 _ (0, 0) _ F5.out Tryd.underlying43 rfl IW.out ?_)
    refine (HN.out _).mono ?_
    rintro e w6 ⟨rfl, hb6⟩
    have z5 : w.heap.size < w5.heap.size := (Array.getElem?_eq_some_iff.1 R5.out).1
    have R6 := Lib.hid ((hb6.block _ z5).trans R5.out)
    have B6 := Lib.hid (B5.out.trans (hb6.mono B5.out.size)); clear hb6 z5
    go_upto_region 5 with (refine wpList_store_row rfl 24 _ _ rfl w.heap.size (pw Q) rfl rfl 24 (pw X) R6.out infoWord rfl (pw_one _) ?_)
    obtain ⟨w7, h7⟩ : ∃ w7, w6.setRow w.heap.size (pw Q) = w7 := ⟨_, rfl⟩
    rw [h7]
    have R7 : Hid (w7.heap[w.heap.size]? = some (.cells (pw Q) 24 (0, 0))) := Lib.hid (by rw [← h7]; exact setRow_heap _ _ _ _ _ _ R6.out)
    have B7 : Hid (Below w.heap.size w w7) := Lib.hid (by rw [← h7]; exact below_setRow (H.out.old.trans (B6.out.mono H.out.old.size)) (Nat.le_refl _) _)
    clear h7
    have hQlt : Q < 115792089237316195423570985008687907853269984665640564039457584007913129639936 := by rw [← HQ.out]; exact Nat.lt_of_le_of_lt (Nat.div_le_self _ _) H.out.lt
    have hXe : X = Q * 10000000000000000000 + r := by have := Nat.div_add_mod' X t19; rw [HQ.out, HRR.out] at this; exact this.symm
    by_cases hq0 : Q = 0
    · have HE := Lib.hid (eqz_run Q true (by rw [hq0]; rfl))
      have heq := HE.out
      have HS : Hid (Lib.decDigits x = Lib.decDigits r ++ s) := Lib.hid (by rw [H.out.dec, hXe, hq0, Nat.zero_mul, Nat.zero_add])
      have hrl : (Lib.decDigits r).length ≤ 19 := dec_len 19 r (by have := HLT.out; unfold t19 at this; simpa using this) (by omega)
      have hcat : ¬ 9223372036854775807 < (Lib.decDigits r).length + s.length := by have := H.out.len; omega
      clear hq0 hQlt hXe hrl
      go_wp2_with (refine wpList_load_row rfl 24 _ rfl w.heap.size rfl 24 _ (0, 0) _ R7.out Tryd.underlying24 rfl infoWord ?_)
      go_ret
      refine ⟨?_, B7.out⟩
      show Ending.returned (.string (⟨(Lib.decDigits r).toArray⟩ ++ ⟨s.toArray⟩)) = _
      unfold decS
      rw [HS.out, ba_append]
    · have HE := Lib.hid (eqz_run Q false (by rw [decide_eq_false_iff_not, Nat.mod_eq_of_lt hQlt]; exact hq0))
      have heq := HE.out
      have hrl : (Lib.decDigits r).length ≤ 19 := dec_len 19 r (by have := HLT.out; unfold t19 at this; simpa using this) (by omega)
      obtain ⟨k, hk⟩ : ∃ k : Nat, (19 : Int) - ((Lib.decDigits r).length : Int) = (k : Int) := ⟨19 - (Lib.decDigits r).length, by omega⟩
      have hkN : k = 19 - (Lib.decDigits r).length := by omega
      have HK := Lib.hid hkN
      have hk0 : (0 : Int) ≤ k := by omega
      have hrep : ∀ w, Calls Tryd.prog 22 #[.string ⟨#[48]⟩, .int .i64 k] w fun e w' => e = .returned (.string ⟨(List.replicate k 48).toArray⟩) ∧ Below w.heap.size w w' := fun w => by
        have h := Tryd.strings_Repeat ⟨#[48]⟩ k w (by omega) (by show 1 * k ≤ _; omega)
        rw [show Lib.repeatL (⟨#[48]⟩ : ByteArray).data.toList k = List.replicate k 48 from rep_one k] at h
        exact h
      have HREP := Lib.hid hrep; clear hrep
      have hcat1 : ¬ 9223372036854775807 < k + (Lib.decDigits r).length := by omega
      have hlong : s.length < 78 := dec_rest HX.out H.out.dec
      have hcat2 : ¬ 9223372036854775807 < k + (Lib.decDigits r).length + s.length := by omega
      have HS : Hid (Lib.decDigits x = Lib.decDigits Q ++ (List.replicate k 48 ++ Lib.decDigits r ++ s)) := Lib.hid (by
        rw [H.out.dec, hXe, dec_19 (by omega) (by have := HLT.out; unfold t19 at this; exact this), List.append_assoc]
        unfold dec19
        rw [← HK.out, List.append_assoc])
      have HLEN : Hid (s.length < 78) := Lib.hid hlong
      have HQL := Lib.hid hQlt
      clear hq0 hQlt hXe hrl hkN hlong
      go_wp2_with (refine wpList_load_row rfl 24 _ rfl w.heap.size rfl 24 _ (0, 0) _ R7.out Tryd.underlying24 rfl infoWord ?_)
      refine (HREP.out _).mono ?_
      rintro e w8 ⟨rfl, hb8⟩
      have R8 := Lib.hid ((hb8.block _ (Array.getElem?_eq_some_iff.1 R7.out).1).trans R7.out)
      have B8 := Lib.hid (B7.out.trans (hb8.mono B7.out.size)); clear hb8
      go_wp2
      go_roundw
      case rel =>
        refine ⟨Q, List.replicate k 48 ++ Lib.decDigits r ++ s, ?_, Lib.hid ⟨HS.out, R8.out, B8.out, HQL.out, Nat.lt_trans (dec_rest HX.out HS.out) (by omega)⟩⟩
        rw [← ba_append, ← ba_append]
        simp
      case measure =>
        have h1 := dec_rest HX.out HS.out
        have h2 : 0 < k + (Lib.decDigits r).length := by have := HK.out; omega
        simp only [List.length_append, List.length_replicate] at h1
        have e : slenV (Value.string ({ data := Array.replicate k 48 } ++ { data := (Lib.decDigits r).toArray } ++ { data := s.toArray })) = k + (Lib.decDigits r).length + s.length := by
          show (({ data := Array.replicate k 48 } ++ { data := (Lib.decDigits r).toArray } ++ { data := s.toArray } : ByteArray)).size = _
          simp only [ByteArray.size_append]
          show (Array.replicate k (48 : UInt8)).size + (Lib.decDigits r).toArray.size + s.toArray.size = _
          simp
        rw [e]
        show _ < 200 - s.toArray.size
        simp only [List.size_toArray]
        omega

theorem decimal_any (x : Nat) (w : World) (htab : Lib.TabIs Tryd.prog w "internal/strconv.uint64pow10" .u64 Lib.pow10Tab) :
    Calls Tryd.prog 9 #[wv x] w fun e w' => e = .returned (.string (decS (x % 115792089237316195423570985008687907853269984665640564039457584007913129639936))) ∧ Below w.heap.size w w' := by
  have h := decimal_walk (x % 115792089237316195423570985008687907853269984665640564039457584007913129639936) (Nat.mod_lt _ (by omega)) w htab
  rw [pw_modn] at h
  exact h
end Go.Proofs.YtmhgnlngcjckbaaDoor

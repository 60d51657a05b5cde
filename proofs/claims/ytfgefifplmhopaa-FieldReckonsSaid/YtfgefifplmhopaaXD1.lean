/- bailiwicklaw07.FieldReckons: the statement about it: whatever the input: true; the input reads as it did. CONDITIONS: none. (With it, merged: FRNum · RLow · FRCmp · FRPls · FRMin · RFld · RPt · RAd · RSb · RNw · FRecks · FieldReckons.) -/
import Derived.Test.YtfgefifplmhopaaM3
import Derived.Test.YtfgefifplmhopaaM7
import Derived.Test.YtfgefifplmhopaaM8
import Derived.Test.YtfgefifplmhopaaM6
import Derived.Test.YtfgefifplmhopaaM5
namespace Go.Proofs.Ytfgefifplmhopaa
def cyN (a b k : Nat) : Nat := (a % 2 ^ (64 * k) + b % 2 ^ (64 * k)) / 2 ^ (64 * k)
def bwN (a b k : Nat) : Nat := if a % 2 ^ (64 * k) < b % 2 ^ (64 * k) then 1 else 0
theorem cy_step (a b k : Nat) (ha : a < 115792089237316195423570985008687907853269984665640564039457584007913129639936) (hb : b < 115792089237316195423570985008687907853269984665640564039457584007913129639936) (hk : k < 4) : pN a k + pN b k + cyN a b k = pN (a + b) k + 18446744073709551616 * cyN a b (k + 1) ∧ cyN a b k ≤ 1 ∧ cyN a b (k + 1) ≤ 1 := by
  unfold pN cyN
  have : k = 0 ∨ k = 1 ∨ k = 2 ∨ k = 3 := by omega
  rcases this with rfl | rfl | rfl | rfl <;> simp only [Nat.reduceMul, Nat.reduceAdd, Nat.reducePow] <;> omega
theorem bw_step (a b k : Nat) (ha : a < 115792089237316195423570985008687907853269984665640564039457584007913129639936) (hb : b < 115792089237316195423570985008687907853269984665640564039457584007913129639936) (hk : k < 4) : pN a k + 18446744073709551616 * bwN a b (k + 1) = pN b k + bwN a b k + pN (a + 115792089237316195423570985008687907853269984665640564039457584007913129639936 - b) k ∧ bwN a b k ≤ 1 ∧ bwN a b (k + 1) ≤ 1 := by
  unfold pN bwN
  have : k = 0 ∨ k = 1 ∨ k = 2 ∨ k = 3 := by omega
  rcases this with rfl | rfl | rfl | rfl <;> simp only [Nat.reduceMul, Nat.reduceAdd, Nat.reducePow] <;> split <;> split <;> omega
theorem cy_end (a b : Nat) (ha : a < 115792089237316195423570985008687907853269984665640564039457584007913129639936) (hb : b < 115792089237316195423570985008687907853269984665640564039457584007913129639936) : cyN a b 4 = if 115792089237316195423570985008687907853269984665640564039457584007913129639936 ≤ a + b then 1 else 0 := by
  unfold cyN
  simp only [Nat.reduceMul, Nat.reducePow]
  split <;> omega
theorem cy_zero (a b : Nat) : cyN a b 0 = 0 := by unfold cyN; simp [Nat.mod_one]
theorem bw_zero (a b : Nat) : bwN a b 0 = 0 := by unfold bwN; simp [Nat.mod_one]
/-- The first k parts are those of x, the others those of y. -/
def mixN (x y k j : Nat) : Nat := if j < k then pN x j else pN y j
theorem mix_next (x y k j : Nat) : mixN x y (k + 1) j = if j = k then pN x k else mixN x y k j := by
  unfold mixN
  by_cases e : j = k
  · subst e; rw [if_pos (by omega), if_pos rfl]
  · rw [if_neg e]
    by_cases h : j < k
    · rw [if_pos (by omega), if_pos h]
    · rw [if_neg (by omega), if_neg h]
theorem top_step (a k : Nat) (ha : a < 115792089237316195423570985008687907853269984665640564039457584007913129639936) (hk : k < 4) : a / 2 ^ (64 * k) = a / 2 ^ (64 * (k + 1)) * 18446744073709551616 + pN a k := by
  unfold pN
  have : k = 0 ∨ k = 1 ∨ k = 2 ∨ k = 3 := by omega
  rcases this with rfl | rfl | rfl | rfl <;> simp only [Nat.reduceMul, Nat.reduceAdd, Nat.reducePow] <;> omega
theorem div_lt_of {a b P : Nat} (h : a / P < b / P) : a < b := Nat.lt_of_not_le fun hle => Nat.not_lt.2 (Nat.div_le_div_right hle) h
end Go.Proofs.Ytfgefifplmhopaa
namespace Go.Proofs.Ytfgefifplmhopaa
/-- The parts of 32 bits. -/
def qN (x j : Nat) : Nat := x % 115792089237316195423570985008687907853269984665640564039457584007913129639936 / 2 ^ (32 * j) % 4294967296
theorem qN_lt (x j : Nat) : qN x j < 4294967296 := Nat.mod_lt _ (by omega)
theorem qn_of (x k p s : Nat) (hp : k / 2 = p) (hs : 32 * (k % 2) = s) : pN x p / 2 ^ s % 4294967296 = qN x k := by
  subst hp hs
  unfold pN qN
  have e : 18446744073709551616 = 2 ^ (32 * (k % 2)) * 2 ^ (64 - 32 * (k % 2)) := by rw [← Nat.pow_add, show 32 * (k % 2) + (64 - 32 * (k % 2)) = 64 by omega]
  have e2 : (4294967296 : Nat) = 2 ^ 32 := by rfl
  rw [e, Nat.mod_mul_right_div_self, e2, Nat.mod_mod_of_dvd _ (Nat.pow_dvd_pow 2 (by omega)), Nat.div_div_eq_div_mul, ← Nat.pow_add, show 64 * (k / 2) + 32 * (k % 2) = 32 * k by omega]
theorem odd_part : ∀ n : Nat, 0 < n → ∃ v r, n = 2 ^ v * (2 * r + 1) := by
  intro n
  induction n using Nat.strongRecOn with
  | ind n ih =>
    intro h
    by_cases ho : n % 2 = 1
    · exact ⟨0, n / 2, by rw [Nat.pow_zero, Nat.one_mul]; omega⟩
    · obtain ⟨v, r, e⟩ := ih (n / 2) (by omega) (by omega)
      exact ⟨v + 1, r, by rw [Nat.pow_succ, Nat.mul_comm (2 ^ v) 2, Nat.mul_assoc, ← e]; omega⟩
theorem and_compl (r n : Nat) (h : r < 2 ^ n) : r &&& (2 ^ n - (r + 1)) = 0 := by
  apply Nat.eq_of_testBit_eq
  intro i
  rw [Nat.testBit_and, Nat.testBit_two_pow_sub_succ h, Nat.zero_testBit]
  cases Nat.testBit r i <;> simp
theorem and_odd (r s : Nat) (h : r &&& s = 0) : (2 * r + 1) &&& (2 * s + 1) = 1 := by
  apply Nat.eq_of_testBit_eq
  intro i
  cases i with
  | zero => rw [Nat.testBit_and]; simp [Nat.testBit_zero]
  | succ i =>
    have e : Nat.testBit (r &&& s) i = false := by rw [h, Nat.zero_testBit]
    rw [Nat.testBit_and] at e
    rw [Nat.testBit_and, Nat.testBit_succ, Nat.testBit_succ, Nat.testBit_succ, show (2 * r + 1) / 2 = r by omega, show (2 * s + 1) / 2 = s by omega, e]
    simp
/-- The lowest bit of a number below 2^32. -/
theorem low_bit (L : Nat) (h0 : 0 < L) (hl : L < 4294967296) : ∃ v r, L = 2 ^ v * (2 * r + 1) ∧ v < 32 ∧ L &&& (18446744073709551616 - L) = 2 ^ v := by
  obtain ⟨v, r, e⟩ := odd_part L h0
  have hv : v < 32 := by
    apply Classical.byContradiction
    intro hn
    have : 2 ^ 32 ≤ 2 ^ v := Nat.pow_le_pow_right (by omega) (by omega)
    have h2 : 2 ^ v * 1 ≤ 2 ^ v * (2 * r + 1) := Nat.mul_le_mul_left _ (by omega)
    omega
  refine ⟨v, r, e, hv, ?_⟩
  have hr : r < 2 ^ (63 - v) := by
    apply Classical.byContradiction
    intro hn
    have h2 : 2 ^ v * 2 ^ (63 - v) ≤ 2 ^ v * r := Nat.mul_le_mul_left _ (by omega)
    have h3 : 2 ^ v * r ≤ 2 ^ v * (2 * r + 1) := Nat.mul_le_mul_left _ (by omega)
    rw [← Nat.pow_add, show v + (63 - v) = 63 by omega] at h2
    omega
  have e2 : 18446744073709551616 - L = 2 ^ v * (2 * (2 ^ (63 - v) - (r + 1)) + 1) := by
    have e3 : 2 ^ v * (2 * 2 ^ (63 - v)) = 18446744073709551616 := by
      rw [show 2 * 2 ^ (63 - v) = 2 ^ (64 - v) by rw [← Nat.pow_succ', Nat.succ_eq_add_one, show 63 - v + 1 = 64 - v by omega], ← Nat.pow_add, show v + (64 - v) = 64 by omega]
    rw [← e3, e, ← Nat.mul_sub]
    congr 1
    omega
  rw [e2, e, Nat.mul_comm (2 ^ v), Nat.mul_comm (2 ^ v), ← Nat.shiftLeft_eq, ← Nat.shiftLeft_eq, ← Nat.shiftLeft_and_distrib, and_odd _ _ (and_compl _ _ hr), Nat.shiftLeft_eq, Nat.one_mul]
/-- What holds of Low all the time. -/
def LowI (m lo : Nat) : Prop := ∃ t, t ≤ 32 ∧ lo < 2 ^ t ∧ 2 ^ t ∣ lo * m + 1
theorem LowI.lt {m lo : Nat} (h : LowI m lo) : lo < 4294967296 := by
  obtain ⟨t, h1, h2, -⟩ := h
  have : 2 ^ t ≤ 2 ^ 32 := Nat.pow_le_pow_right (by omega) h1
  omega
theorem LowI.start {m : Nat} (h : m % 2 = 1) : LowI m 1 := ⟨1, by omega, by omega, by rw [Nat.dvd_iff_mod_eq_zero]; omega⟩
theorem LowI.step {m lo c L : Nat} (h : LowI m lo) (ho : m % 2 = 1) (hc : lo * m % 4294967296 = c) (hn : c ≠ 4294967295) (hL : 4294967295 - c = L) : ∃ b, L &&& (18446744073709551616 - L) = b ∧ 0 < b ∧ lo + b < 4294967296 ∧ LowI m (lo + b) := by
  have hcl : c < 4294967296 := by rw [← hc]; exact Nat.mod_lt _ (by omega)
  obtain ⟨v, r, e, hv, hb⟩ := low_bit L (by omega) (by omega)
  obtain ⟨t, h1, h2, h3⟩ := h
  have hpv : 0 < 2 ^ v := Nat.pow_pos (by omega)
  -- lo * m + 1 and L are together a multiple of 2^32
  obtain ⟨z, hz⟩ : ∃ z, lo * m + 1 + L = 4294967296 * z := ⟨lo * m / 4294967296 + 1, by have := Nat.div_add_mod (lo * m) 4294967296; omega⟩
  have htL : 2 ^ t ∣ L := by
    have hd : 2 ^ t ∣ lo * m + 1 + L := by
      rw [hz]
      exact Nat.dvd_trans (show 2 ^ t ∣ 4294967296 from (show (2 : Nat) ^ t ∣ 2 ^ 32 from Nat.pow_dvd_pow 2 h1)) (Nat.dvd_mul_right _ _)
    exact (Nat.dvd_add_iff_right h3).2 hd
  have htv : t ≤ v := by
    apply Classical.byContradiction
    intro hn
    have h4 : 2 ^ (v + 1) ∣ 2 ^ v * (2 * r + 1) := by rw [← e]; exact Nat.dvd_trans (Nat.pow_dvd_pow 2 (by omega)) htL
    rw [Nat.pow_succ] at h4
    have := Nat.dvd_of_mul_dvd_mul_left hpv h4
    omega
  have hlo : lo < 2 ^ v := Nat.lt_of_lt_of_le h2 (Nat.pow_le_pow_right (by omega) htv)
  have hv1 : 2 ^ (v + 1) = 2 ^ v * 2 := Nat.pow_succ _ _
  have hv2 : 2 ^ (v + 1) ≤ 2 ^ 32 := Nat.pow_le_pow_right (by omega) (by omega)
  refine ⟨2 ^ v, hb, hpv, by omega, v + 1, by omega, by omega, ?_⟩
  have h5 : 2 ^ (v + 1) ∣ 4294967296 := (show (2 : Nat) ^ (v + 1) ∣ 2 ^ 32 from Nat.pow_dvd_pow 2 (by omega))
  have h6 : (lo + 2 ^ v) * m + 1 + L = 4294967296 * z + 2 ^ v * m := by rw [Nat.add_mul]; omega
  have h7 : 2 ^ v * m + 2 ^ (v + 1) * r + 2 ^ v = L + 2 ^ v * m := by rw [e, hv1]; grind
  obtain ⟨u, hu⟩ : ∃ u, m = 2 * u + 1 := ⟨m / 2, by omega⟩
  -- (lo + 2^v) m + 1 = 2^32 z + 2^v (m - 2r - 1): told with no difference
  have h8 : 2 ^ (v + 1) ∣ (lo + 2 ^ v) * m + 1 + 2 ^ (v + 1) * r := by
    have e9 : (lo + 2 ^ v) * m + 1 + 2 ^ (v + 1) * r = 4294967296 * z + 2 ^ (v + 1) * u := by
      have : 2 ^ v * m = 2 ^ (v + 1) * u + 2 ^ v := by rw [hu, hv1]; grind
      have e10 : L = 2 ^ (v + 1) * r + 2 ^ v := by rw [e, hv1]; grind
      omega
    rw [e9]
    exact Nat.dvd_add (Nat.dvd_trans h5 (Nat.dvd_mul_right _ _)) (Nat.dvd_mul_right _ _)
  exact (Nat.dvd_add_iff_left (Nat.dvd_mul_right _ _)).2 h8
theorem LowI.done {m lo : Nat} (hc : lo * m % 4294967296 = 4294967295) : (lo * m + 1) % 4294967296 = 0 := by omega
end Go.Proofs.Ytfgefifplmhopaa
namespace Go.Proofs.Ytfgefifplmhopaa
open Go.RowKit
/-- The worlds of a function of two words. -/
structure W2 (w : World) (fa fb : Nat → Nat) (wx : World) : Prop where
  old : Below w.heap.size w wx
  ra : wx.heap[w.heap.size]? = some (.cells (ar .u64 4 fun j => ((fa j : Nat) : Int)) 24 (0, 0))
  rb : wx.heap[w.heap.size + 1]? = some (.cells (ar .u64 4 fun j => ((fb j : Nat) : Int)) 24 (0, 0))
theorem W2.drew {w wx : World} {fa fb : Nat → Nat} (c : W2 w fa fb wx) : W2 w fa fb wx.drew := ⟨c.old.drew, c.ra, c.rb⟩
theorem W2.ca {w wx : World} {fa fb : Nat → Nat} (c : W2 w fa fb wx) (j : Nat) (hj : j < 4) : wx.cell? ⟨w.heap.size, j, none⟩ = some (.int .u64 (fa j : Nat)) := (cell_of_row _ _ j _ _ _ c.ra).trans (ar_at _ _ _ _ hj)
theorem W2.cb {w wx : World} {fa fb : Nat → Nat} (c : W2 w fa fb wx) (j : Nat) (hj : j < 4) : wx.cell? ⟨w.heap.size + 1, j, none⟩ = some (.int .u64 (fb j : Nat)) := (cell_of_row _ _ j _ _ _ c.rb).trans (ar_at _ _ _ _ hj)
theorem W2.start (w : World) (a b : Nat) : W2 w (pN a) (pN b) ((w.alloc (.cells (pw a) 24)).alloc (.cells (pw b) 24)) := by
  refine ⟨((Below.refl _ _).alloc (Nat.le_refl _) _).alloc (by simp) _, ?_, ?_⟩
  · rw [Below.heap_alloc _ _ _ (by simp), heap_alloc_new, pw_ar]
  · have := heap_alloc_new (w.alloc (.cells (pw a) 24)) (.cells (pw b) 24)
    rw [World.size_alloc] at this
    rw [this, pw_ar]
set_option maxRecDepth 100000 in
set_option maxHeartbeats 1000000 in
theorem moreW_any (a b : Nat) (ha : a < 115792089237316195423570985008687907853269984665640564039457584007913129639936) (hb : b < 115792089237316195423570985008687907853269984665640564039457584007913129639936) (w : World) : Calls Try.prog 45 #[.agg (pw a), .agg (pw b)] w fun e w' => e = .returned (.bool (decide (b ≤ a))) ∧ Below w.heap.size w w' := by
  have HAB := Lib.hid (And.intro ha hb)
  have HS := Lib.hid (show a / 2 ^ (64 * 4) = b / 2 ^ (64 * 4) from by rw [Nat.div_eq_of_lt (by simpa using ha), Nat.div_eq_of_lt (by simpa using hb)])
  have HR := Lib.hid (show ∃ w0, (w.alloc (.cells (pw a) 24)).alloc (.cells (pw b) 24) = w0 ∧ W2 w (pN a) (pN b) w0 from ⟨_, rfl, W2.start w a b⟩)
  clear ha hb
  go_enter Try.func45, Try.ntmps45
  go_wp2_with fail
  obtain ⟨w0, hw0, h0⟩ := HR.out
  rw [hw0]
  have H0 := Lib.hid h0
  clear hw0 h0 HR
  go_loopw [5] (fun iv wr => ∃ (z : Int) (k : Nat), k ≤ 4 ∧ z = (k : Int) - 1 ∧ iv = .int .i64 z ∧ Hid (a / 2 ^ (64 * k) = b / 2 ^ (64 * k) ∧ W2 w (pN a) (pN b) wr)) (fun iv _ => (intOf iv + 1).toNat)
  case atStart => exact ⟨3, 4, by omega, by omega, rfl, Lib.hid ⟨HS.out, H0.out⟩⟩
  case round =>
    obtain ⟨z, k, hk, hz, rfl, H⟩ := hrel
    clear H0 HS
    by_cases h0 : 0 ≤ z
    · obtain ⟨j, rfl⟩ := Int.eq_ofNat_of_zero_le h0
      obtain rfl : k = j + 1 := by omega
      have hj : j < 4 := by omega
      have hj4 : (j : Int) < 4 := by omega
      have ca := H.out.2.ca j hj
      have cb := H.out.2.cb j hj
      have ta := Lib.hid (top_step a j HAB.out.1 hj)
      have tb := Lib.hid (top_step b j HAB.out.2 hj)
      have hpl := pN_le a j
      have hql := pN_le b j
      obtain ⟨p, hp⟩ : ∃ p, pN a j = p := ⟨_, rfl⟩
      obtain ⟨q, hq⟩ : ∃ q, pN b j = q := ⟨_, rfl⟩
      rw [hp] at ca ta hpl
      rw [hq] at cb tb hql
      clear hp hq
      have HL := Lib.hid (And.intro hpl hql)
      clear hpl hql
      by_cases he : p = q
      · subst he
        clear hk hz hj
        go_wp2_with fail
        go_region
        go_wp2
        go_roundw
        case rel => exact ⟨(j : Int) - 1, j, by omega, rfl, by go_num, Lib.hid ⟨by rw [ta.out, tb.out, H.out.1], H.out.2.drew⟩⟩
        case measure => simp [intOf]
      · have hne : ¬ (p : Int) = (q : Int) := by omega
        by_cases hlt : q < p
        · have hgt : (q : Int) < (p : Int) := by omega
          have HE := Lib.hid (show decide (b ≤ a) = true from decide_eq_true (Nat.le_of_lt (div_lt_of (P := 2 ^ (64 * j)) (by rw [ta.out, tb.out, H.out.1]; omega))))
          clear hk hz hj he hlt ta tb HL
          go_wp2_with fail
          go_region
          go_wp2_with fail
          go_region
          go_wp2_with fail
          go_ret
          exact ⟨by rw [HE.out]; first | rfl | (show Ending.returned (.bool (decide (q < p))) = _; rw [decide_eq_false (by omega)]), H.out.2.old.drew.drew⟩
        · have hgt : ¬ (q : Int) < (p : Int) := by omega
          have HE := Lib.hid (show decide (b ≤ a) = false from decide_eq_false (Nat.not_le.2 (div_lt_of (P := 2 ^ (64 * j)) (by rw [ta.out, tb.out, H.out.1]; omega))))
          clear hk hz hj he hlt ta tb HL
          go_wp2_with fail
          go_region
          go_wp2_with fail
          go_region
          go_wp2_with fail
          go_ret
          exact ⟨by rw [HE.out]; first | rfl | (show Ending.returned (.bool (decide (q < p))) = _; rw [decide_eq_false (by omega)]), H.out.2.old.drew.drew⟩
    · obtain rfl : k = 0 := by omega
      have hz' : ¬ (z : Int) ≥ 0 := by omega
      have HE := Lib.hid (show decide (b ≤ a) = true from decide_eq_true (by have := H.out.1; simp at this; omega))
      clear hz
      go_wp2_with fail
      go_ret
      exact ⟨by rw [HE.out]; rfl, H.out.2.old⟩
end Go.Proofs.Ytfgefifplmhopaa
namespace Go.Proofs.Ytfgefifplmhopaa
open Go.RowKit
structure W3 (w : World) (fa fb : Nat → Nat) (wx : World) : Prop extends W2 w fa fb wx where
  rc : wx.heap[w.heap.size + 1 + 1]? = some (.cells (#[.int .u64 0, .int .u64 0, .int .u64 0, .int .u64 0]) 24 (0, 0))
theorem W3.drew {w wx : World} {fa fb : Nat → Nat} (c : W3 w fa fb wx) : W3 w fa fb wx.drew := ⟨c.toW2.drew, c.rc⟩
theorem W3.start (w : World) (a b : Nat) : W3 w (pN a) (pN b) (((w.alloc (.cells (pw a) 24)).alloc (.cells (pw b) 24)).alloc (.cells (#[.int .u64 0, .int .u64 0, .int .u64 0, .int .u64 0]) 24)) := by
  have h := W2.start w a b
  refine ⟨⟨h.old.alloc (by simp; omega) _, ?_, ?_⟩, ?_⟩
  · rw [Below.heap_alloc _ _ _ (by simp; omega), h.ra]
  · rw [Below.heap_alloc _ _ _ (by simp), h.rb]
  · have := heap_alloc_new ((w.alloc (.cells (pw a) 24)).alloc (.cells (pw b) 24)) (.cells (#[.int .u64 0, .int .u64 0, .int .u64 0, .int .u64 0]) 24)
    rwa [World.size_alloc, World.size_alloc] at this
theorem W3.put {w wx : World} {x y k v : Nat} {fb : Nat → Nat} (c : W3 w (mixN x y k) fb wx) (hk : k < 4) (hv : v = pN x k) : W3 w (mixN x y (k + 1)) fb (wx.setCell ⟨w.heap.size, k, none⟩ (.int .u64 (v : Nat))) := by
  subst hv
  refine ⟨⟨c.old.setCell (Nat.le_refl _) _, ?_, (heap_setCell_other _ _ _ _ (by simp)).trans c.rb⟩, (heap_setCell_other _ _ _ _ (by simp; omega)).trans c.rc⟩
  refine (heap_setCell_same _ _ _ _ _ _ c.ra).trans ?_
  rw [ar_set _ _ _ _ _ hk]
  congr 2
  refine ar_congr fun j _ => ?_
  unfold updI
  rw [mix_next]
  by_cases e : j = k
  · rw [if_pos e, if_pos e]
  · rw [if_neg e, if_neg e]
theorem mix_zero (x y : Nat) : mixN x y 0 = pN y := by funext j; simp [mixN]
theorem mix_four (x y : Nat) : (ar .u64 4 fun j => ((mixN x y 4 j : Nat) : Int)) = pw x := by
  rw [pw_ar]
  exact ar_congr fun j hj => by unfold mixN; rw [if_pos hj]
theorem W3.full {w wx : World} {x y : Nat} {fb : Nat → Nat} (c : W3 w (mixN x y 4) fb wx) : wx.heap[w.heap.size]? = some (.cells (pw x) 24 (0, 0)) ∧ wx.heap[w.heap.size + 1 + 1]? = some (.cells (#[.int .u64 0, .int .u64 0, .int .u64 0, .int .u64 0]) 24 (0, 0)) := by
  refine ⟨?_, c.rc⟩
  have := c.ra
  rwa [mix_four] at this
theorem results_cs {fn : Func} {p q : Tmp} (h : fn.results = #[.cell p 24, .tmp q]) (tmps : Array Value) (w : World) (g : Nat) (cs : Array Value) (v : Value) (fr : Nat × Nat)
    (hp : tmps.getD p undef = .pointer (some ⟨g, 0, none⟩)) (hq : tmps.getD q undef = v) (hg : w.heap[g]? = some (.cells cs 24 fr))
    (hi : (Try.prog.info? 24).map (·.size) = some cs.size) :
    (results fn tmps).run Try.prog w = .ok (.tuple #[.agg cs, v]) w := by
  have hp' : tmps[p]?.getD undef = .pointer (some ⟨g, 0, none⟩) := by simpa using hp
  have hq' : tmps[q]?.getD undef = v := by simpa using hq
  simp [results, h, hp', hq', asAddr, run_loadVar_row w g 24 24 cs fr _ hg Try.underlying24 rfl hi]
set_option maxRecDepth 100000 in
set_option maxHeartbeats 2000000 in
theorem plusW_any (a b : Nat) (ha : a < 115792089237316195423570985008687907853269984665640564039457584007913129639936) (hb : b < 115792089237316195423570985008687907853269984665640564039457584007913129639936) (w : World) : Calls Try.prog 47 #[.agg (pw a), .agg (pw b)] w fun e w' => e = .returned (.tuple #[.agg (pw (a + b)), .bool (decide (115792089237316195423570985008687907853269984665640564039457584007913129639936 ≤ a + b))]) ∧ Below w.heap.size w w' := by
  have HAB := Lib.hid (And.intro ha hb)
  have HE := Lib.hid (cy_end a b ha hb)
  have HR := Lib.hid (show ∃ w0, ((w.alloc (.cells (pw a) 24)).alloc (.cells (pw b) 24)).alloc (.cells (#[.int .u64 0, .int .u64 0, .int .u64 0, .int .u64 0]) 24) = w0 ∧ W3 w (mixN (a + b) a 0) (pN b) w0 from ⟨_, rfl, by rw [mix_zero]; exact W3.start w a b⟩)
  clear ha hb
  go_enter Try.func47, Try.ntmps47
  go_wp2_with fail
  obtain ⟨w0, hw0, h0⟩ := HR.out
  rw [hw0]
  have H0 := Lib.hid h0
  clear hw0 h0 HR
  go_loopw [6, 7] (fun ov iv wr => ∃ k c : Nat, k ≤ 4 ∧ c = cyN a b k ∧ ov = .int .u64 c ∧ iv = .int .i64 k ∧ Hid (W3 w (mixN (a + b) a k) (pN b) wr)) (fun _ iv _ => 4 - (intOf iv).toNat)
  case atStart => exact ⟨0, 0, by omega, (cy_zero _ _).symm, rfl, rfl, H0⟩
  case round =>
    obtain ⟨k, c, hk, hc, rfl, rfl, H⟩ := hrel
    clear H0
    have hk0 : (0 : Int) ≤ k := by omega
    by_cases hlt : k < 4
    · have hk4 : (k : Int) < 4 := by omega
      have ca := H.out.ca k hlt
      have cb := H.out.cb k hlt
      have fo := frozen_of_row wr w.heap.size k _ _ H.out.ra
      rw [show mixN (a + b) a k k = pN a k from by unfold mixN; rw [if_neg (by omega)]] at ca
      obtain ⟨hst, hc1, hd1⟩ := cy_step a b k HAB.out.1 HAB.out.2 hlt
      have hpl := pN_le a k
      have hql := pN_le b k
      have hsl := pN_le (a + b) k
      have hck : cyN a b k = c := hc.symm
      obtain ⟨d, hd⟩ : ∃ d, cyN a b (k + 1) = d := ⟨_, rfl⟩
      obtain ⟨p, hp⟩ : ∃ p, pN a k = p := ⟨_, rfl⟩
      obtain ⟨q, hq⟩ : ∃ q, pN b k = q := ⟨_, rfl⟩
      obtain ⟨s, hs⟩ : ∃ s, pN (a + b) k = s := ⟨_, rfl⟩
      obtain ⟨x, hx⟩ : ∃ x, (p + q) % 18446744073709551616 = x := ⟨_, rfl⟩
      rw [hck, hd, hp, hq, hs] at hst
      rw [hck] at hc1
      rw [hd] at hd1
      rw [hp] at ca hpl
      rw [hq] at cb hql
      rw [hs] at hsl
      have hxl : x < 18446744073709551616 := by omega
      have hX : IntKind.u64.wrap ((p : Int) + (q : Int)) = (x : Int) := by rw [IntKind.wrap_u64]; omega
      have hY : IntKind.u64.wrap ((x : Int) + (c : Int)) = (s : Int) := by rw [IntKind.wrap_u64]; omega
      have HN := Lib.hid (And.intro hd hs)
      by_cases h1 : x < p
      · have h1' : (x : Int) < (p : Int) := by omega
        obtain rfl : d = 1 := by omega
        have HK := Lib.hid hlt
        clear hc hk hst hc1 hd1 hpl hql hsl hck hd hp hq hs hx hxl h1 hlt
        go_wp2_with fail
        go_region
        go_wp2_with fail
        go_roundw
        case rel => exact ⟨k + 1, 1, by have := HK.out; omega, HN.out.1.symm, rfl, by go_num, Lib.hid (H.out.drew.put HK.out HN.out.2.symm)⟩
        case measure => have := HK.out; simp [intOf]; omega
      · have h1' : ¬ (x : Int) < (p : Int) := by omega
        by_cases h2 : s < x
        · have h2' : (s : Int) < (x : Int) := by omega
          obtain rfl : d = 1 := by omega
          have HK := Lib.hid hlt
          clear hc hk hst hc1 hd1 hpl hql hsl hck hd hp hq hs hx hxl h1 h2 hlt
          go_wp2_with fail
          go_region
          go_wp2_with fail
          go_roundw
          case rel => exact ⟨k + 1, 1, by have := HK.out; omega, HN.out.1.symm, rfl, by go_num, Lib.hid (H.out.drew.put HK.out HN.out.2.symm)⟩
          case measure => have := HK.out; simp [intOf]; omega
        · have h2' : ¬ (s : Int) < (x : Int) := by omega
          obtain rfl : d = 0 := by omega
          have HK := Lib.hid hlt
          clear hc hk hst hc1 hd1 hpl hql hsl hck hd hp hq hs hx hxl h1 h2 hlt
          go_wp2_with fail
          go_region
          go_wp2_with fail
          go_roundw
          case rel => exact ⟨k + 1, 0, by have := HK.out; omega, HN.out.1.symm, rfl, by go_num, Lib.hid (H.out.drew.put HK.out HN.out.2.symm)⟩
          case measure => have := HK.out; simp [intOf]; omega
    · obtain rfl : k = 4 := by omega
      have HF := Lib.hid H.out.full
      rw [HE.out] at hc
      have hend : decide (115792089237316195423570985008687907853269984665640564039457584007913129639936 ≤ a + b) = decide ((c : Int) = 1) := by
        rw [hc]
        by_cases h : 115792089237316195423570985008687907853269984665640564039457584007913129639936 ≤ a + b
        · rw [decide_eq_true h, if_pos h]; rfl
        · rw [decide_eq_false h, if_neg h]; rfl
      have HD := Lib.hid hend
      clear hc hend HE hk0
      go_wp2_with (first | (refine wpList_ld rfl 24 _ rfl (.pointer (some ⟨w.heap.size, 0, none⟩)) (.agg (pw (a + b))) rfl (ld_pw (by exact HF.out.1)) ?_) | (refine wpList_store_row rfl 24 _ _ rfl (w.heap.size + 1 + 1) (pw (a + b)) rfl rfl 24 (#[.int .u64 0, .int .u64 0, .int .u64 0, .int .u64 0]) (by exact HF.out.2) (by rw [pw_size]; exact infoW4) (by rw [pw_size]; rfl) (pw_one _) ?_))
      (try simp only [Act.put])
      refine bodyPost_ret (v := .tuple #[.agg (pw (a + b)), .bool (decide ((c : Int) = 1))]) (results_cs (p := 4) (q := 5) rfl _ _ (w.heap.size + 1 + 1) (pw (a + b)) _ (0, 0) rfl rfl (setRow_heap _ _ _ _ _ _ HF.out.2) (by rw [pw_size]; exact infoW4)) rfl ⟨by rw [HD.out], below_setRow H.out.old (by omega) _⟩
end Go.Proofs.Ytfgefifplmhopaa
namespace Go.Proofs.Ytfgefifplmhopaa
open Go.RowKit
set_option maxRecDepth 100000 in
set_option maxHeartbeats 2000000 in
theorem minusW_any (a b : Nat) (ha : a < 115792089237316195423570985008687907853269984665640564039457584007913129639936) (hb : b < 115792089237316195423570985008687907853269984665640564039457584007913129639936) (w : World) : Calls Try.prog 46 #[.agg (pw a), .agg (pw b)] w fun e w' => e = .returned (.agg (pw (a + 115792089237316195423570985008687907853269984665640564039457584007913129639936 - b))) ∧ Below w.heap.size w w' := by
  have HAB := Lib.hid (And.intro ha hb)
  have HR := Lib.hid (show ∃ w0, ((w.alloc (.cells (pw a) 24)).alloc (.cells (pw b) 24)).alloc (.cells (#[.int .u64 0, .int .u64 0, .int .u64 0, .int .u64 0]) 24) = w0 ∧ W3 w (mixN (a + 115792089237316195423570985008687907853269984665640564039457584007913129639936 - b) a 0) (pN b) w0 from ⟨_, rfl, by rw [mix_zero]; exact W3.start w a b⟩)
  clear ha hb
  go_enter Try.func46, Try.ntmps46
  go_wp2_with fail
  obtain ⟨w0, hw0, h0⟩ := HR.out
  rw [hw0]
  have H0 := Lib.hid h0
  clear hw0 h0 HR
  go_loopw [5, 6] (fun ov iv wr => ∃ k c : Nat, k ≤ 4 ∧ c = bwN a b k ∧ ov = .int .u64 c ∧ iv = .int .i64 k ∧ Hid (W3 w (mixN (a + 115792089237316195423570985008687907853269984665640564039457584007913129639936 - b) a k) (pN b) wr)) (fun _ iv _ => 4 - (intOf iv).toNat)
  case atStart => exact ⟨0, 0, by omega, (bw_zero _ _).symm, rfl, rfl, H0⟩
  case round =>
    obtain ⟨k, c, hk, hc, rfl, rfl, H⟩ := hrel
    clear H0
    have hk0 : (0 : Int) ≤ k := by omega
    by_cases hlt : k < 4
    · have hk4 : (k : Int) < 4 := by omega
      have ca := H.out.ca k hlt
      have cb := H.out.cb k hlt
      have fo := frozen_of_row wr w.heap.size k _ _ H.out.ra
      rw [show mixN (a + 115792089237316195423570985008687907853269984665640564039457584007913129639936 - b) a k k = pN a k from by unfold mixN; rw [if_neg (by omega)]] at ca
      obtain ⟨hst, hc1, hd1⟩ := bw_step a b k HAB.out.1 HAB.out.2 hlt
      have hpl := pN_le a k
      have hql := pN_le b k
      have hsl := pN_le (a + 115792089237316195423570985008687907853269984665640564039457584007913129639936 - b) k
      have hck : bwN a b k = c := hc.symm
      obtain ⟨d, hd⟩ : ∃ d, bwN a b (k + 1) = d := ⟨_, rfl⟩
      obtain ⟨p, hp⟩ : ∃ p, pN a k = p := ⟨_, rfl⟩
      obtain ⟨q, hq⟩ : ∃ q, pN b k = q := ⟨_, rfl⟩
      obtain ⟨s, hs⟩ : ∃ s, pN (a + 115792089237316195423570985008687907853269984665640564039457584007913129639936 - b) k = s := ⟨_, rfl⟩
      obtain ⟨x, hx⟩ : ∃ x : Nat, IntKind.u64.wrap ((p : Int) - (q : Int)) = (x : Int) := ⟨(((p : Int) - (q : Int)) % 18446744073709551616).toNat, by rw [IntKind.wrap_u64]; omega⟩
      rw [hck, hd, hp, hq, hs] at hst
      rw [hck] at hc1
      rw [hd] at hd1
      rw [hp] at ca hpl
      rw [hq] at cb hql
      rw [hs] at hsl
      have hxw := hx
      rw [IntKind.wrap_u64] at hxw
      have hY : IntKind.u64.wrap ((x : Int) - (c : Int)) = (s : Int) := by rw [IntKind.wrap_u64]; omega
      have HN := Lib.hid (And.intro hd hs)
      have HK := Lib.hid hlt
      by_cases h1 : p < q
      · have h1' : (p : Int) < (q : Int) := by omega
        obtain rfl : d = 1 := by omega
        clear hc hk hst hc1 hd1 hpl hql hsl hck hd hp hq hs hxw h1 hlt
        go_wp2_with fail
        go_region
        go_wp2_with fail
        go_region
        go_wp2_with fail
        go_roundw
        case rel => exact ⟨k + 1, 1, by have := HK.out; omega, HN.out.1.symm, rfl, by go_num, Lib.hid (H.out.drew.drew.put HK.out HN.out.2.symm)⟩
        case measure => have := HK.out; simp [intOf]; omega
      · have h1' : ¬ (p : Int) < (q : Int) := by omega
        by_cases h2 : p = q
        · subst h2
          have hcc : c = 0 ∨ c = 1 := by omega
          rcases hcc with rfl | rfl
          · obtain rfl : d = 0 := by omega
            obtain rfl : s = 0 := by omega
            clear hc hk hst hc1 hd1 hpl hql hsl hck hd hp hq hs hxw h1 hlt
            go_wp2_with fail
            go_region
            go_wp2_with fail
            go_region
            go_wp2_with fail
            go_roundw
            case rel => exact ⟨k + 1, 0, by have := HK.out; omega, HN.out.1.symm, rfl, by go_num, Lib.hid (H.out.drew.drew.put HK.out HN.out.2.symm)⟩
            case measure => have := HK.out; simp [intOf]; omega
          · obtain rfl : d = 1 := by omega
            obtain rfl : s = 18446744073709551615 := by omega
            clear hc hk hst hc1 hd1 hpl hql hsl hck hd hp hq hs hxw h1 hlt
            go_wp2_with fail
            go_region
            go_wp2_with fail
            go_region
            go_wp2_with fail
            go_roundw
            case rel => exact ⟨k + 1, 1, by have := HK.out; omega, HN.out.1.symm, rfl, by go_num, Lib.hid (H.out.drew.drew.put HK.out (by rw [HN.out.2]; kernel_rfl))⟩
            case measure => have := HK.out; simp [intOf]; omega
        · have h2' : ¬ (p : Int) = (q : Int) := by omega
          obtain rfl : d = 0 := by omega
          have HIA := Lib.hid (show ∀ wx, (Instr.indexAt 24 (.pointer (some ⟨w.heap.size, 0, none⟩)) (.int .i64 k)).run Try.prog wx = .ok (.pointer (some ⟨w.heap.size, k, none⟩)) wx from fun wx => by go_simp)
          have HIB := Lib.hid (show ∀ wx, (Instr.indexAt 24 (.pointer (some ⟨w.heap.size + 1, 0, none⟩)) (.int .i64 k)).run Try.prog wx = .ok (.pointer (some ⟨w.heap.size + 1, k, none⟩)) wx from fun wx => by go_simp)
          have HLA := Lib.hid (show ∀ wx, W3 w (mixN (a + 115792089237316195423570985008687907853269984665640564039457584007913129639936 - b) a k) (pN b) wx → (Instr.loadAt 22 (.pointer (some ⟨w.heap.size, k, none⟩))).run Try.prog wx = .ok (.int .u64 (p : Nat)) wx from fun wx c => by
            have hc := c.ca k hlt
            rw [show mixN (a + 115792089237316195423570985008687907853269984665640564039457584007913129639936 - b) a k k = pN a k from by unfold mixN; rw [if_neg (by omega)], hp] at hc
            clear hk hst hlt hp
            go_simp)
          have HLB := Lib.hid (show ∀ wx, W3 w (mixN (a + 115792089237316195423570985008687907853269984665640564039457584007913129639936 - b) a k) (pN b) wx → (Instr.loadAt 22 (.pointer (some ⟨w.heap.size + 1, k, none⟩))).run Try.prog wx = .ok (.int .u64 (q : Nat)) wx from fun wx c => by
            have hc := c.cb k hlt
            rw [hq] at hc
            clear hk hst hlt hq
            go_simp)
          have HLS := Lib.hid (show ∀ wx, (binOp BinOp.lss 22 (.int .u64 (p : Nat)) (.int .u64 (q : Nat))).run Try.prog wx = .ok (.bool false) wx from fun wx => by clear hst; go_simp)
          have HEQ := Lib.hid (show ∀ wx, (binOp BinOp.eql 22 (.int .u64 (p : Nat)) (.int .u64 (q : Nat))).run Try.prog wx = .ok (.bool false) wx from fun wx => by clear hst; go_simp)
          clear hc hk hst hc1 hd1 hpl hql hsl hck hd hp hq hs hxw hlt
          go_wp2_with fail
          go_region
          go_wp2_with fail
          refine wp_region_quiet (C := W3 w (mixN (a + 115792089237316195423570985008687907853269984665640564039457584007913129639936 - b) a k) (pN b)) (by kernel_rfl) (by kernel_rfl) (H.out.drew.drew) ?_
          simp only
          with_reducible refine q_val (.int .i64 (k : Nat)) (by kernel_rfl) (fun _ _ => by kernel_rfl) ?_
          with_reducible refine q_sem2 (Instr.indexAt 24 (.pointer (some ⟨w.heap.size, 0, none⟩)) (.int .i64 (k : Nat))) (.pointer (some ⟨w.heap.size, k, none⟩)) (by kernel_rfl) (by kernel_rfl) (fun w' _ => HIA.out w') ?_
          with_reducible refine q_load 22 (.tmp 22) (.pointer (some ⟨w.heap.size, k, none⟩)) (.int .u64 (p : Nat)) rfl (by kernel_rfl) (by kernel_rfl) (fun _ c => HLA.out _ c) ?_
          with_reducible refine q_val (.int .i64 (k : Nat)) (by kernel_rfl) (fun _ _ => by kernel_rfl) ?_
          with_reducible refine q_sem2 (Instr.indexAt 24 (.pointer (some ⟨w.heap.size + 1, 0, none⟩)) (.int .i64 (k : Nat))) (.pointer (some ⟨w.heap.size + 1, k, none⟩)) (by kernel_rfl) (by kernel_rfl) (fun w' _ => HIB.out w') ?_
          with_reducible refine q_load 22 (.tmp 25) (.pointer (some ⟨w.heap.size + 1, k, none⟩)) (.int .u64 (q : Nat)) rfl (by kernel_rfl) (by kernel_rfl) (fun _ c => HLB.out _ c) ?_
          with_reducible refine q_bin .lss 22 _ _ 22 (.int .u64 (p : Nat)) (.int .u64 (q : Nat)) (.bool false) rfl (by kernel_rfl) (by kernel_rfl) (by kernel_rfl) (fun _ => by kernel_rfl) (fun w' => HLS.out w') ?_
          with_reducible refine q_val (.bool false) (by kernel_rfl) (fun _ _ => by kernel_rfl) ?_
          with_reducible refine q_val (.int .i64 (k : Nat)) (by kernel_rfl) (fun _ _ => by kernel_rfl) ?_
          with_reducible refine q_sem2 (Instr.indexAt 24 (.pointer (some ⟨w.heap.size, 0, none⟩)) (.int .i64 (k : Nat))) (.pointer (some ⟨w.heap.size, k, none⟩)) (by kernel_rfl) (by kernel_rfl) (fun w' _ => HIA.out w') ?_
          with_reducible refine q_load 22 (.tmp 30) (.pointer (some ⟨w.heap.size, k, none⟩)) (.int .u64 (p : Nat)) rfl (by kernel_rfl) (by kernel_rfl) (fun _ c => HLA.out _ c) ?_
          with_reducible refine q_val (.int .i64 (k : Nat)) (by kernel_rfl) (fun _ _ => by kernel_rfl) ?_
          with_reducible refine q_sem2 (Instr.indexAt 24 (.pointer (some ⟨w.heap.size + 1, 0, none⟩)) (.int .i64 (k : Nat))) (.pointer (some ⟨w.heap.size + 1, k, none⟩)) (by kernel_rfl) (by kernel_rfl) (fun w' _ => HIB.out w') ?_
          with_reducible refine q_load 22 (.tmp 33) (.pointer (some ⟨w.heap.size + 1, k, none⟩)) (.int .u64 (q : Nat)) rfl (by kernel_rfl) (by kernel_rfl) (fun _ c => HLB.out _ c) ?_
          with_reducible refine q_bin .eql 22 _ _ 22 (.int .u64 (p : Nat)) (.int .u64 (q : Nat)) (.bool false) rfl (by kernel_rfl) (by kernel_rfl) (by kernel_rfl) (fun _ => by kernel_rfl) (fun w' => HEQ.out w') ?_
          with_reducible refine q_val (.bool false) (by kernel_rfl) (fun _ _ => by kernel_rfl) ?_
          with_reducible refine q_skip (by kernel_rfl) ?_
          with_reducible refine q_skip (by kernel_rfl) ?_
          with_reducible refine q_val (.bool false) (by kernel_rfl) (fun _ _ => by kernel_rfl) ?_
          with_reducible refine q_val (.bool false) (by kernel_rfl) (fun _ _ => by kernel_rfl) ?_
          with_reducible refine wpQuiet_nil ?_
          intro wx hC
          have HC := Lib.hid hC
          clear hC H ca cb fo
          simp only [Act.put, List.setIfInBounds_toArray, List.set_cons_succ, List.set_cons_zero]
          have fo := frozen_of_row wx w.heap.size k _ _ HC.out.ra
          have ca := HC.out.ca k HK.out
          go_wp2_with fail
          go_roundw
          case rel => exact ⟨k + 1, 0, by have := HK.out; omega, HN.out.1.symm, rfl, by go_num, Lib.hid (HC.out.put HK.out HN.out.2.symm)⟩
          case measure => have := HK.out; simp [intOf]; omega
    · obtain rfl : k = 4 := by omega
      have HF := Lib.hid H.out.full
      clear hc hk0
      go_wp2_with (first | (refine wpList_ld rfl 24 _ rfl (.pointer (some ⟨w.heap.size, 0, none⟩)) (.agg (pw (a + 115792089237316195423570985008687907853269984665640564039457584007913129639936 - b))) rfl (ld_pw (by exact HF.out.1)) ?_) | (refine wpList_store_row rfl 24 _ _ rfl (w.heap.size + 1 + 1) (pw (a + 115792089237316195423570985008687907853269984665640564039457584007913129639936 - b)) rfl rfl 24 (#[.int .u64 0, .int .u64 0, .int .u64 0, .int .u64 0]) (by exact HF.out.2) (by rw [pw_size]; exact infoW4) (by rw [pw_size]; rfl) (pw_one _) ?_))
      (try simp only [Act.put])
      refine bodyPost_ret (v := .agg (pw (a + 115792089237316195423570985008687907853269984665640564039457584007913129639936 - b))) (results_cell_row (p := 4) rfl _ _ (w.heap.size + 1 + 1) 24 (pw (a + 115792089237316195423570985008687907853269984665640564039457584007913129639936 - b)) (0, 0) _ rfl (setRow_heap _ _ _ _ _ _ HF.out.2) Try.underlying24 rfl (by rw [pw_size]; exact infoW4)) rfl ⟨rfl, below_setRow H.out.old (by omega) _⟩
end Go.Proofs.Ytfgefifplmhopaa
namespace Go.Proofs.Ytfgefifplmhopaa
open Go.RowKit
/-- The struct's parts: the modulus, its parts of 32 bits, Low, Square. -/
def rfw (m lo sq j : Nat) : Nat := if j < 4 then pN m j else if j < 12 then qN m (j - 4) else if j = 12 then lo else pN sq (j - 13)
def RFat (w : World) (G m lo sq : Nat) : Prop := w.heap[G]? = some (.cells (ar .u64 17 fun j => ((rfw m lo sq j : Nat) : Int)) 61 (0, 0))
theorem RFat.less {w : World} {G m lo sq : Nat} (h : RFat w G m lo sq) : G < w.heap.size := (Array.getElem?_eq_some_iff.1 h).1
theorem RFat.below {w w' : World} {G m lo sq : Nat} (h : RFat w G m lo sq) (hb : Below w.heap.size w w') : RFat w' G m lo sq := (hb.block _ h.less).trans h
theorem RFat.cell {w : World} {G m lo sq : Nat} (h : RFat w G m lo sq) (j : Nat) (hj : j < 17) : w.cell? ⟨G, j, none⟩ = some (.int .u64 (rfw m lo sq j : Nat)) := (cell_of_row _ _ j _ _ _ h).trans (ar_at _ _ _ _ hj)
theorem rfw_m (m lo sq j : Nat) (h : j < 4) : rfw m lo sq (0 + j) = pN m j := by unfold rfw; rw [Nat.zero_add, if_pos h]
theorem rfw_q (m lo sq j : Nat) (h : j < 8) : rfw m lo sq (4 + j) = qN m j := by unfold rfw; rw [if_neg (by omega), if_pos (by omega), show 4 + j - 4 = j by omega]
theorem rfw_lo (m lo sq : Nat) : rfw m lo sq 12 = lo := rfl
theorem rfw_sq (m lo sq j : Nat) : rfw m lo sq (13 + j) = pN sq j := by unfold rfw; rw [if_neg (by omega), if_neg (by omega), if_neg (by omega), show 13 + j - 13 = j by omega]
theorem ld_rm {w : World} {G m lo sq : Nat} (h : RFat w G m lo sq) : (Instr.loadAt 24 (.pointer (some ⟨G, 0, none⟩))).run Try.prog w = .ok (.agg (pw m)) w := by
  rw [pw_ar]
  simp only [Instr.loadAt, Instr.sureAddr, Sem.run_bind, Sem.run_pure, Result.andThen_ok, run_loadVar_part w G 0 4 24 .u64 (fun j => ((pN m j : Nat) : Int)) _ (fun j hj => (h.cell (0 + j) (by omega)).trans (by rw [rfw_m _ _ _ _ hj])) Try.underlying24 rfl infoW4]
theorem ld_rsq {w : World} {G m lo sq : Nat} (h : RFat w G m lo sq) : (Instr.loadAt 24 (.pointer (some ⟨G, 13, none⟩))).run Try.prog w = .ok (.agg (pw sq)) w := by
  rw [pw_ar]
  simp only [Instr.loadAt, Instr.sureAddr, Sem.run_bind, Sem.run_pure, Result.andThen_ok, run_loadVar_part w G 13 4 24 .u64 (fun j => ((pN sq j : Nat) : Int)) _ (fun j hj => (h.cell (13 + j) (by omega)).trans (by rw [rfw_sq])) Try.underlying24 rfl infoW4]
theorem rf_at (G : Nat) (w : World) : (Instr.fieldAt 61 (.pointer (some ⟨G, 0, none⟩)) 0).run Try.prog w = .ok (.pointer (some ⟨G, 0, none⟩)) w ∧ (Instr.fieldAt 61 (.pointer (some ⟨G, 0, none⟩)) 1).run Try.prog w = .ok (.pointer (some ⟨G, 4, none⟩)) w ∧ (Instr.fieldAt 61 (.pointer (some ⟨G, 0, none⟩)) 2).run Try.prog w = .ok (.pointer (some ⟨G, 12, none⟩)) w ∧ (Instr.fieldAt 61 (.pointer (some ⟨G, 0, none⟩)) 3).run Try.prog w = .ok (.pointer (some ⟨G, 13, none⟩)) w := by
  refine ⟨?_, ?_, ?_, ?_⟩ <;> kernel_rfl
theorem RFat.lo {w : World} {G m lo sq : Nat} (h : RFat w G m lo sq) (l' : Nat) : RFat (w.setCell ⟨G, 12, none⟩ (.int .u64 (l' : Nat))) G m l' sq := by
  refine (heap_setCell_same _ _ _ _ _ _ h).trans ?_
  rw [ar_set _ _ _ _ _ (by omega)]
  congr 2
theorem sq_upd (m lo sq y : Nat) : ar .u64 17 (updI (updI (updI (updI (fun j => ((rfw m lo sq j : Nat) : Int)) 13 ((pN y 0 : Nat) : Int)) (13 + 1) ((pN y 1 : Nat) : Int)) (13 + 1 + 1) ((pN y 2 : Nat) : Int)) (13 + 1 + 1 + 1) ((pN y 3 : Nat) : Int)) = ar .u64 17 fun j => ((rfw m lo y j : Nat) : Int) := by kernel_rfl
theorem RFat.sq {w : World} {G m lo sq : Nat} (h : RFat w G m lo sq) (y : Nat) : RFat (w.setCells G 13 (pw y).toList) G m lo y := by
  unfold RFat
  rw [pw_list]
  simp only [World.setCells]
  refine (heap_setCell_same _ _ _ _ _ _ (heap_setCell_same _ _ _ _ _ _ (heap_setCell_same _ _ _ _ _ _ (heap_setCell_same _ _ _ _ _ _ h)))).trans ?_
  rw [ar_set _ _ _ _ _ (by omega), ar_set _ _ _ _ _ (by omega), ar_set _ _ _ _ _ (by omega), ar_set _ _ _ _ _ (by omega), sq_upd]
theorem RFat.there {w : World} {G m lo sq : Nat} (h : RFat w G m lo sq) (y : Nat) : w.there G 13 (pw y).size := by
  intro j hj
  rw [pw_size] at hj
  exact ⟨by rw [h.cell (13 + j) (by omega)]; rfl, frozen_of_row _ _ _ _ _ h⟩
/-- The worlds of the reference's method: blocks that hold words. -/
structure CRf (w : World) (G m lo sq : Nat) (L : List (Nat × Array Value)) (wx : World) : Prop where
  old : Below w.heap.size w wx
  fld : RFat wx G m lo sq
  hG : G < w.heap.size
  rows : ∀ p ∈ L, wx.heap[p.1]? = some (.cells p.2 24 (0, 0))
theorem CRf.is {w wx : World} {G m lo sq : Nat} {L : List (Nat × Array Value)} (c : CRf w G m lo sq L wx) (g : Nat) (cs : Array Value) (hm : (g, cs) ∈ L) : wx.heap[g]? = some (.cells cs 24 (0, 0)) := c.rows _ hm
theorem CRf.below {w wx w' : World} {G m lo sq : Nat} {L : List (Nat × Array Value)} (c : CRf w G m lo sq L wx) (hb : Below wx.heap.size wx w') : CRf w G m lo sq L w' :=
  ⟨c.old.trans (hb.mono c.old.size), c.fld.below hb, c.hG, fun p hp => (hb.block _ (Array.getElem?_eq_some_iff.1 (c.rows p hp)).1).trans (c.rows p hp)⟩
theorem CRf.drew {w wx : World} {G m lo sq : Nat} {L : List (Nat × Array Value)} (c : CRf w G m lo sq L wx) : CRf w G m lo sq L wx.drew := c.below (Below.drew (Below.refl _ _))
theorem CRf.new {w wx : World} {G m lo sq : Nat} {L : List (Nat × Array Value)} (c : CRf w G m lo sq L wx) (cs : Array Value) : CRf w G m lo sq ((wx.heap.size, cs) :: L) (wx.alloc (.cells cs 24)) := by
  have h := c.below ((Below.refl _ _).alloc (Nat.le_refl _) (.cells cs 24))
  refine ⟨h.old, h.fld, h.hG, fun p hp => ?_⟩
  rcases List.mem_cons.1 hp with rfl | hp
  · exact heap_alloc_new _ _
  · exact h.rows p hp
theorem CRf.cons {w wx : World} {G m lo sq d : Nat} {L : List (Nat × Array Value)} {cs : Array Value} (c : CRf w G m lo sq L wx) (hr : wx.heap[d]? = some (.cells cs 24 (0, 0))) : CRf w G m lo sq ((d, cs) :: L) wx := by
  refine ⟨c.old, c.fld, c.hG, fun p hp => ?_⟩
  rcases List.mem_cons.1 hp with rfl | hp
  · exact hr
  · exact c.rows p hp
theorem CRf.start {w : World} {G m lo sq : Nat} (h : RFat w G m lo sq) : CRf w G m lo sq [] w := ⟨Below.refl _ _, h, h.less, fun p hp => by cases hp⟩
theorem CRf.two {w : World} {G m lo sq : Nat} (h : RFat w G m lo sq) (a b : Nat) : CRf w G m lo sq [(w.heap.size + 1 + 1, #[.int .u64 0, .int .u64 0, .int .u64 0, .int .u64 0]), (w.heap.size + 1, pw b), (w.heap.size, pw a)] (((w.alloc (.cells (pw a) 24)).alloc (.cells (pw b) 24)).alloc (.cells (#[.int .u64 0, .int .u64 0, .int .u64 0, .int .u64 0]) 24)) := by
  have := (((CRf.start h).new (pw a)).new (pw b)).new (#[.int .u64 0, .int .u64 0, .int .u64 0, .int .u64 0])
  rwa [World.size_alloc, World.size_alloc] at this
theorem CRf.one {w : World} {G m lo sq : Nat} (h : RFat w G m lo sq) (a : Nat) : CRf w G m lo sq [(w.heap.size + 1, #[.int .u64 0, .int .u64 0, .int .u64 0, .int .u64 0]), (w.heap.size, pw a)] ((w.alloc (.cells (pw a) 24)).alloc (.cells (#[.int .u64 0, .int .u64 0, .int .u64 0, .int .u64 0]) 24)) := by
  have := ((CRf.start h).new (pw a)).new (#[.int .u64 0, .int .u64 0, .int .u64 0, .int .u64 0])
  rwa [World.size_alloc] at this
theorem CRf.calls {w : World} {G m lo sq : Nat} {L : List (Nat × Array Value)} {f : FuncId} {args : Array Value} {v : Value} (h : ∀ wx, RFat wx G m lo sq → Calls Try.prog f args wx fun e w' => e = .returned v ∧ Below wx.heap.size wx w') : ∀ wx, CRf w G m lo sq L wx → Calls Try.prog f args wx fun e w' => e = .returned v ∧ CRf w G m lo sq L w' :=
  fun wx c => (h wx c.fld).mono fun _ _ hh => ⟨hh.1, c.below hh.2⟩
end Go.Proofs.Ytfgefifplmhopaa
namespace Go.Proofs.Ytfgefifplmhopaa
open Go.RowKit
/-- The first k parts are in. -/
def q8 (x k j : Nat) : Nat := if j < k then qN x j else 0
theorem q8_next (x k j : Nat) : q8 x (k + 1) j = if j = k then qN x k else q8 x k j := by
  unfold q8
  by_cases e : j = k
  · subst e; rw [if_pos (by omega), if_pos rfl]
  · rw [if_neg e]
    by_cases h : j < k
    · rw [if_pos (by omega), if_pos h]
    · rw [if_neg (by omega), if_neg h]
theorem q8_zero (x : Nat) : (ar .u64 8 fun j => ((q8 x 0 j : Nat) : Int)) = #[.int .u64 0, .int .u64 0, .int .u64 0, .int .u64 0, .int .u64 0, .int .u64 0, .int .u64 0, .int .u64 0] := by kernel_rfl
theorem q8_full (x : Nat) : (ar .u64 8 fun j => ((q8 x 8 j : Nat) : Int)) = ar .u64 8 fun j => ((qN x j : Nat) : Int) := ar_congr fun j hj => by unfold q8; rw [if_pos hj]
theorem info8 : (Try.prog.info? 58).map (·.size) = some 8 := by kernel_rfl
theorem and_low32 (z : Nat) (h : z < 18446744073709551616) : bits .and .u64 z 4294967295 = ((z % 4294967296 : Nat) : Int) := by
  have := bits_and_u64_nat z 4294967295 h (by omega)
  rw [show z &&& 4294967295 = z % 4294967296 from Nat.and_two_pow_sub_one_eq_mod z 32] at this
  exact this
structure CP8 (w : World) (x k : Nat) (wx : World) : Prop where
  old : Below w.heap.size w wx
  ra : wx.heap[w.heap.size]? = some (.cells (ar .u64 4 fun j => ((pN x j : Nat) : Int)) 24 (0, 0))
  rr : wx.heap[w.heap.size + 1]? = some (.cells (ar .u64 8 fun j => ((q8 x 0 j : Nat) : Int)) 58 (0, 0))
  rp : wx.heap[w.heap.size + 1 + 1]? = some (.cells (ar .u64 8 fun j => ((q8 x k j : Nat) : Int)) 58 (0, 0))
theorem CP8.drew {w wx : World} {x k : Nat} (c : CP8 w x k wx) : CP8 w x k wx.drew := ⟨c.old.drew, c.ra, c.rr, c.rp⟩
theorem CP8.put {w wx : World} {x k v : Nat} (c : CP8 w x k wx) (hk : k < 8) (hv : v = qN x k) : CP8 w x (k + 1) (wx.setCell ⟨w.heap.size + 1 + 1, k, none⟩ (.int .u64 (v : Nat))) := by
  subst hv
  refine ⟨c.old.setCell (by simp; omega) _, (heap_setCell_other _ _ _ _ (by simp; omega)).trans c.ra, (heap_setCell_other _ _ _ _ (by simp)).trans c.rr, ?_⟩
  refine (heap_setCell_same _ _ _ _ _ _ c.rp).trans ?_
  rw [ar_set _ _ _ _ _ hk]
  congr 2
  refine ar_congr fun j _ => ?_
  unfold updI
  rw [q8_next]
  by_cases e : j = k
  · rw [if_pos e, if_pos e]
  · rw [if_neg e, if_neg e]
theorem CP8.start (w : World) (x : Nat) : CP8 w x 0 (((w.alloc (.cells (pw x) 24)).alloc (.cells (#[.int .u64 0, .int .u64 0, .int .u64 0, .int .u64 0, .int .u64 0, .int .u64 0, .int .u64 0, .int .u64 0]) 58)).alloc (.cells (#[.int .u64 0, .int .u64 0, .int .u64 0, .int .u64 0, .int .u64 0, .int .u64 0, .int .u64 0, .int .u64 0]) 58)) := by
  refine ⟨(((Below.refl _ _).alloc (Nat.le_refl _) _).alloc (by simp) _).alloc (by simp; omega) _, ?_, ?_, ?_⟩
  · rw [Below.heap_alloc _ _ _ (by simp; omega), Below.heap_alloc _ _ _ (by simp), heap_alloc_new, pw_ar]
  · rw [Below.heap_alloc _ _ _ (by simp), q8_zero]
    have := heap_alloc_new (w.alloc (.cells (pw x) 24)) (.cells (#[.int .u64 0, .int .u64 0, .int .u64 0, .int .u64 0, .int .u64 0, .int .u64 0, .int .u64 0, .int .u64 0]) 58)
    rwa [World.size_alloc] at this
  · rw [q8_zero]
    have := heap_alloc_new ((w.alloc (.cells (pw x) 24)).alloc (.cells (#[.int .u64 0, .int .u64 0, .int .u64 0, .int .u64 0, .int .u64 0, .int .u64 0, .int .u64 0, .int .u64 0]) 58)) (.cells (#[.int .u64 0, .int .u64 0, .int .u64 0, .int .u64 0, .int .u64 0, .int .u64 0, .int .u64 0, .int .u64 0]) 58)
    rwa [World.size_alloc, World.size_alloc] at this
set_option maxRecDepth 100000 in
set_option maxHeartbeats 2000000 in
theorem rparts_any (x : Nat) (w : World) : Calls Try.prog 43 #[.agg (pw x)] w fun e w' => e = .returned (.agg (ar .u64 8 fun j => ((qN x j : Nat) : Int))) ∧ Below w.heap.size w w' := by
  have HI8 : Hid ((Try.prog.info? 58).map (·.size) = some (ar .u64 8 fun j => ((q8 x 8 j : Nat) : Int)).size) := Lib.hid (by rw [ar_size]; exact info8)
  have HR := Lib.hid (CP8.start w x)
  go_enter Try.func43, Try.ntmps43
  go_wp2_with fail
  go_loopw [4] (fun iv wr => ∃ k : Nat, k ≤ 8 ∧ iv = .int .i64 k ∧ Hid (CP8 w x k wr)) (fun iv _ => 8 - (intOf iv).toNat)
  case atStart => exact ⟨0, by omega, rfl, HR⟩
  case round =>
    obtain ⟨k, hk, rfl, H⟩ := hrel
    clear HR
    have hk0 : (0 : Int) ≤ k := by omega
    have hk1 : (k : Int) ≤ 8 := by omega
    by_cases hlt : k < 8
    · obtain ⟨p, hp⟩ : ∃ p : Nat, (k : Int) / 2 = (p : Int) := ⟨k / 2, by omega⟩
      obtain ⟨r, hr⟩ : ∃ r : Nat, (k : Int) % 2 = (r : Int) := ⟨k % 2, by omega⟩
      obtain ⟨s, hs⟩ : ∃ s : Nat, 32 * (r : Int) = (s : Int) := ⟨32 * r, by omega⟩
      have hp0 : (0 : Int) ≤ p := by omega
      have hp1 : (p : Int) < 4 := by omega
      have hs0 : (0 : Int) ≤ s := by omega
      have hs1 : (s : Int) < 64 := by omega
      have hlt' : (k : Int) < 8 := by omega
      have ca : wr.cell? ⟨w.heap.size, p, none⟩ = some (.int .u64 (pN x p : Nat)) := (cell_of_row _ _ p _ _ _ H.out.ra).trans (ar_at _ _ _ _ (by omega))
      have co : wr.cell? ⟨w.heap.size + 1 + 1, k, none⟩ = some (.int .u64 (q8 x k k : Nat)) := (cell_of_row _ _ k _ _ _ H.out.rp).trans (ar_at _ _ _ _ (by omega))
      have fo : wr.frozen? ⟨w.heap.size + 1 + 1, k, none⟩ = false := frozen_of_row wr _ k _ _ H.out.rp
      have hpl := pN_le x p
      have hv : bits .and .u64 (((pN x p : Nat) : Int) / 2 ^ s) 4294967295 = ((qN x k : Nat) : Int) := by
        rw [← qn_of x k p s (by omega) (by omega)]
        have h := and_low32 (pN x p / 2 ^ s) (Nat.lt_of_le_of_lt (Nat.div_le_self _ _) hpl)
        simpa using h
      obtain ⟨y, hy⟩ : ∃ y, qN x k = y := ⟨_, rfl⟩
      rw [hy] at hv
      have HV := Lib.hid hv
      have HY := Lib.hid hy
      have HK := Lib.hid hlt
      clear hv hpl hy hlt hk
      go_wp2_with fail
      go_roundw
      case rel => exact ⟨k + 1, by have := HK.out; omega, by go_num, Lib.hid (by rw [HV.out]; exact H.out.put HK.out HY.out.symm)⟩
      case measure => have := HK.out; simp [intOf]; omega
    · obtain rfl : k = 8 := by omega
      go_wp2_with (first | (refine wpList_load_row rfl 58 _ rfl (w.heap.size + 1 + 1) rfl 58 _ (0, 0) _ H.out.rp Try.underlying58 rfl HI8.out ?_) | (refine wpList_store_row rfl 58 _ _ rfl (w.heap.size + 1) (ar .u64 8 fun j => ((q8 x 8 j : Nat) : Int)) rfl rfl 58 _ (by exact H.out.rr) HI8.out (by rw [ar_size, ar_size]) (ar_one _ _ _) ?_))
      refine bodyPost_ret (v := .agg (ar .u64 8 fun j => ((q8 x 8 j : Nat) : Int))) (results_cell_row (p := 2) rfl _ _ (w.heap.size + 1) 58 _ (0, 0) _ rfl (setRow_heap _ _ _ _ _ _ H.out.rr) Try.underlying58 rfl HI8.out) rfl ⟨by rw [q8_full], below_setRow H.out.old (by omega) _⟩
end Go.Proofs.Ytfgefifplmhopaa
namespace Go.Proofs.Ytfgefifplmhopaa
open Go.RowKit
theorem run_pick {P : Program} {a : Act} {o : Oper} {w : World} (c x y : Operand) (b : Bool) (r : Value) (ho : o.op = .pick c x y) (hc : a.eval c = .bool b) (hr : (if b = true then a.eval x else a.eval y) = r) : (execOp a.eval o).run P w = .ok (.value r) w := by
  unfold execOp
  rw [ho]
  simp [asBool, hc, hr, Sem.run_pure]
theorem CRf.lay {w wx : World} {G m lo sq : Nat} {L : List (Nat × Array Value)} (c : CRf w G m lo sq L wx) (cs : Array Value) : CRf w G m lo sq ((wx.heap.size, cs) :: L) ((wx.alloc (.cells (#[.int .u64 0, .int .u64 0, .int .u64 0, .int .u64 0]) 24)).setRow wx.heap.size cs) := by
  have hb : Below wx.heap.size wx ((wx.alloc (.cells (#[.int .u64 0, .int .u64 0, .int .u64 0, .int .u64 0]) 24)).setRow wx.heap.size cs) := below_setRow ((Below.refl _ _).alloc (Nat.le_refl _) _) (Nat.le_refl _) _
  exact (c.below hb).cons (setRow_heap _ _ _ _ _ _ (heap_alloc_new _ _))
theorem pw_less {s m r : Nat} (h : s + 115792089237316195423570985008687907853269984665640564039457584007913129639936 - m = r ∨ s + 115792089237316195423570985008687907853269984665640564039457584007913129639936 - m = r + 115792089237316195423570985008687907853269984665640564039457584007913129639936) : pw (s + 115792089237316195423570985008687907853269984665640564039457584007913129639936 - m) = pw r := by
  apply pw_congr
  rcases h with h | h <;> rw [h]
  rw [Nat.add_mod_right]
set_option maxRecDepth 100000 in
set_option maxHeartbeats 2000000 in
theorem radd_any (G m lo sq a b : Nat) (hal : a < m) (hbl : b < m) (hm : m < 115792089237316195423570985008687907853269984665640564039457584007913129639936) (w : World) (hF : RFat w G m lo sq) : Calls Try.prog 44 #[(.pointer (some ⟨G, 0, none⟩)), .agg (pw a), .agg (pw b)] w fun e w' => e = .returned (.agg (pw ((a + b) % m))) ∧ Below w.heap.size w w' := by
  have H0 := Lib.hid (CRf.two hF a b)
  have HPL := Lib.hid (fun wx => plusW_any a b (by omega) (by omega) wx)
  obtain ⟨s, hs⟩ : ∃ s, (a + b) % 115792089237316195423570985008687907853269984665640564039457584007913129639936 = s := ⟨_, rfl⟩
  have hsl : s < 115792089237316195423570985008687907853269984665640564039457584007913129639936 := by omega
  rw [show pw (a + b) = pw s from by rw [← hs, pw_modn]] at HPL
  have HMO := Lib.hid (fun wx (_ : RFat wx G m lo sq) => moreW_any s m hsl hm wx)
  have HMI := Lib.hid (fun wx (_ : RFat wx G m lo sq) => minusW_any s m hsl hm wx)
  obtain ⟨y, hy⟩ : ∃ y, s + 115792089237316195423570985008687907853269984665640564039457584007913129639936 - m = y := ⟨_, rfl⟩
  have HR := Lib.hid (show 115792089237316195423570985008687907853269984665640564039457584007913129639936 ≤ a + b ∨ m ≤ s → pw y = pw ((a + b) % m) from fun h => by
    rw [← hy]
    apply pw_less
    have e : (a + b) % m = a + b - m := by
      rw [Nat.mod_eq_sub_mod (by omega), Nat.mod_eq_of_lt (by omega)]
    omega)
  have HR2 := Lib.hid (show ¬ 115792089237316195423570985008687907853269984665640564039457584007913129639936 ≤ a + b → ¬ m ≤ s → pw s = pw ((a + b) % m) from fun h1 h2 => by
    rw [← hs, Nat.mod_eq_of_lt (show a + b < m by omega), Nat.mod_eq_of_lt (show a + b < 115792089237316195423570985008687907853269984665640564039457584007913129639936 by omega)])
  rw [hy] at HMI
  obtain ⟨z, hz⟩ : ∃ z, pw ((a + b) % m) = z := ⟨_, rfl⟩
  rw [hz] at HR HR2 ⊢
  clear hF hz hs hy hsl hal hbl hm
  by_cases ho : 115792089237316195423570985008687907853269984665640564039457584007913129639936 ≤ a + b
  · rw [decide_eq_true ho] at HPL
    have HQ := Lib.hid (HR.out (.inl ho))
    clear HR HR2 HMO ho
    go_enter Try.func44, Try.ntmps44
    go_wp2_with (first | (refine wpList_ld rfl 24 _ rfl (.pointer (some ⟨w.heap.size, 0, none⟩)) (.agg (pw a)) rfl (ld_pw (by exact H0.out.is _ _ (by simp))) ?_) | (refine wpList_ld rfl 24 _ rfl (.pointer (some ⟨w.heap.size + 1, 0, none⟩)) (.agg (pw b)) rfl (ld_pw (by exact H0.out.is _ _ (by simp))) ?_))
    refine (HPL.out _).mono ?_
    rintro e w1 ⟨rfl, hb1⟩
    have H1 := Lib.hid ((H0.out.below hb1).lay (pw s))
    have G1 := Lib.hid (heap_alloc_new w1 (.cells (#[.int .u64 0, .int .u64 0, .int .u64 0, .int .u64 0]) 24))
    clear hb1 H0 HPL
    go_upto_region 2 with (refine wpList_store_row rfl 24 _ _ rfl w1.heap.size (pw s) rfl rfl 24 (#[.int .u64 0, .int .u64 0, .int .u64 0, .int .u64 0]) (by exact G1.out) (by rw [pw_size]; exact infoW4) (by rw [pw_size]; rfl) (pw_one _) ?_)
    obtain ⟨w2, hw2⟩ : ∃ w2, (w1.alloc (.cells (#[.int .u64 0, .int .u64 0, .int .u64 0, .int .u64 0]) 24)).setRow w1.heap.size (pw s) = w2 := ⟨_, rfl⟩
    obtain ⟨g7, hg7⟩ : ∃ g7, w1.heap.size = g7 := ⟨_, rfl⟩
    rw [hw2, hg7] at H1
    rw [hw2, hg7]
    clear hw2 hg7 G1
    refine wp_region_quiet (C := CRf w G m lo sq [(g7, pw s), (w.heap.size + 1 + 1, #[.int .u64 0, .int .u64 0, .int .u64 0, .int .u64 0]), (w.heap.size + 1, pw b), (w.heap.size, pw a)]) (by kernel_rfl) (by kernel_rfl) (H1.out.drew) ?_
    simp only
    with_reducible refine q_val (.bool true) (by kernel_rfl) (fun _ _ => by kernel_rfl) ?_
    with_reducible refine q_val (.bool true) (by kernel_rfl) (fun _ _ => by kernel_rfl) ?_
    with_reducible refine q_skip (by kernel_rfl) ?_
    with_reducible refine q_skip (by kernel_rfl) ?_
    with_reducible refine q_skip (by kernel_rfl) ?_
    with_reducible refine q_skip (by kernel_rfl) ?_
    with_reducible refine q_skip (by kernel_rfl) ?_
    with_reducible refine q_skip (by kernel_rfl) ?_
    with_reducible refine q_val (.bool true) (by kernel_rfl) (fun _ _ => by kernel_rfl) ?_
    with_reducible refine wpQuiet_nil ?_
    intro wx hC
    have HC := Lib.hid hC
    clear hC H1
    simp only [Act.put, List.setIfInBounds_toArray, List.set_cons_succ, List.set_cons_zero]
    go_wp2_with fail
    refine region_quiet_tail 6 (CRf w G m lo sq [(g7, pw s), (w.heap.size + 1 + 1, #[.int .u64 0, .int .u64 0, .int .u64 0, .int .u64 0]), (w.heap.size + 1, pw b), (w.heap.size, pw a)]) (by kernel_rfl) (by kernel_rfl) (HC.out.drew) ?_
    simp only [List.take_succ_cons, List.take_zero, List.drop_succ_cons, List.drop_zero]
    with_reducible refine q_load 24 (.tmp 7) (.pointer (some ⟨g7, 0, none⟩)) (.agg (pw s)) rfl (by kernel_rfl) (by kernel_rfl) (fun _ c => ld_pw (c.is _ _ (by simp))) ?_
    with_reducible refine q_val (.pointer (some ⟨G, 0, none⟩)) (by kernel_rfl) (fun _ _ => by kernel_rfl) ?_
    with_reducible refine q_val (.pointer (some ⟨G, 0, none⟩)) (by kernel_rfl) (fun _ _ => run_nil (.tmp 25) _ rfl (by kernel_rfl)) ?_
    with_reducible refine q_sem2 (Instr.fieldAt 61 (.pointer (some ⟨G, 0, none⟩)) 0) (.pointer (some ⟨G, 0, none⟩)) (by kernel_rfl) (by kernel_rfl) (fun w' _ => (rf_at G w').1) ?_
    with_reducible refine q_load 24 (.tmp 27) (.pointer (some ⟨G, 0, none⟩)) (.agg (pw m)) rfl (by kernel_rfl) (by kernel_rfl) (fun _ c => ld_rm c.fld) ?_
    with_reducible refine q_call 46 #[.agg (pw s), .agg (pw m)] (.agg (pw y)) (by kernel_rfl) (fun _ => by kernel_rfl) (CRf.calls HMI.out) ?_
    with_reducible refine wpQuiet_nil ?_
    intro wx hC
    have HC2 := Lib.hid hC
    clear hC HC HMI
    simp only [Act.put, List.setIfInBounds_toArray, List.set_cons_succ, List.set_cons_zero]
    go_wp2_with (refine wpList_store_row rfl 24 _ _ rfl (w.heap.size + 1 + 1) (pw y) rfl rfl 24 (#[.int .u64 0, .int .u64 0, .int .u64 0, .int .u64 0]) (by exact HC2.out.is _ _ (by simp)) (by rw [pw_size]; exact infoW4) (by first | rfl | (rw [pw_size]; rfl) | (rw [pw_size, pw_size])) (pw_one _) ?_)
    (try simp only [Act.put])
    refine bodyPost_ret (v := .agg (pw y)) (results_cell_row (p := 6) rfl _ _ (w.heap.size + 1 + 1) 24 (pw y) (0, 0) _ rfl (setRow_heap _ _ _ _ _ _ (by exact HC2.out.is _ (#[.int .u64 0, .int .u64 0, .int .u64 0, .int .u64 0]) (by simp))) Try.underlying24 rfl (by rw [pw_size]; exact infoW4)) rfl ⟨by rw [HQ.out], below_setRow HC2.out.old (by omega) _⟩
  · rw [decide_eq_false ho] at HPL
    by_cases hq : m ≤ s
    · rw [decide_eq_true hq] at HMO
      have HQ := Lib.hid (HR.out (.inr hq))
      clear HR HR2 ho hq
      go_enter Try.func44, Try.ntmps44
      go_wp2_with (first | (refine wpList_ld rfl 24 _ rfl (.pointer (some ⟨w.heap.size, 0, none⟩)) (.agg (pw a)) rfl (ld_pw (by exact H0.out.is _ _ (by simp))) ?_) | (refine wpList_ld rfl 24 _ rfl (.pointer (some ⟨w.heap.size + 1, 0, none⟩)) (.agg (pw b)) rfl (ld_pw (by exact H0.out.is _ _ (by simp))) ?_))
      refine (HPL.out _).mono ?_
      rintro e w1 ⟨rfl, hb1⟩
      have H1 := Lib.hid ((H0.out.below hb1).lay (pw s))
      have G1 := Lib.hid (heap_alloc_new w1 (.cells (#[.int .u64 0, .int .u64 0, .int .u64 0, .int .u64 0]) 24))
      clear hb1 H0 HPL
      go_upto_region 2 with (refine wpList_store_row rfl 24 _ _ rfl w1.heap.size (pw s) rfl rfl 24 (#[.int .u64 0, .int .u64 0, .int .u64 0, .int .u64 0]) (by exact G1.out) (by rw [pw_size]; exact infoW4) (by rw [pw_size]; rfl) (pw_one _) ?_)
      obtain ⟨w2, hw2⟩ : ∃ w2, (w1.alloc (.cells (#[.int .u64 0, .int .u64 0, .int .u64 0, .int .u64 0]) 24)).setRow w1.heap.size (pw s) = w2 := ⟨_, rfl⟩
      obtain ⟨g7, hg7⟩ : ∃ g7, w1.heap.size = g7 := ⟨_, rfl⟩
      rw [hw2, hg7] at H1
      rw [hw2, hg7]
      clear hw2 hg7 G1
      refine wp_region_quiet (C := CRf w G m lo sq [(g7, pw s), (w.heap.size + 1 + 1, #[.int .u64 0, .int .u64 0, .int .u64 0, .int .u64 0]), (w.heap.size + 1, pw b), (w.heap.size, pw a)]) (by kernel_rfl) (by kernel_rfl) (H1.out.drew) ?_
      simp only
      with_reducible refine q_val (.bool false) (by kernel_rfl) (fun _ _ => by kernel_rfl) ?_
      with_reducible refine q_val (.bool false) (by kernel_rfl) (fun _ _ => by kernel_rfl) ?_
      with_reducible refine q_load 24 (.tmp 7) (.pointer (some ⟨g7, 0, none⟩)) (.agg (pw s)) rfl (by kernel_rfl) (by kernel_rfl) (fun _ c => ld_pw (c.is _ _ (by simp))) ?_
      with_reducible refine q_val (.pointer (some ⟨G, 0, none⟩)) (by kernel_rfl) (fun _ _ => by kernel_rfl) ?_
      with_reducible refine q_val (.pointer (some ⟨G, 0, none⟩)) (by kernel_rfl) (fun _ _ => run_nil (.tmp 18) _ rfl (by kernel_rfl)) ?_
      with_reducible refine q_sem2 (Instr.fieldAt 61 (.pointer (some ⟨G, 0, none⟩)) 0) (.pointer (some ⟨G, 0, none⟩)) (by kernel_rfl) (by kernel_rfl) (fun w' _ => (rf_at G w').1) ?_
      with_reducible refine q_load 24 (.tmp 20) (.pointer (some ⟨G, 0, none⟩)) (.agg (pw m)) rfl (by kernel_rfl) (by kernel_rfl) (fun _ c => ld_rm c.fld) ?_
      with_reducible refine q_call 45 #[.agg (pw s), .agg (pw m)] (.bool true) (by kernel_rfl) (fun _ => by kernel_rfl) (CRf.calls HMO.out) ?_
      with_reducible refine q_val (.bool true) (by kernel_rfl) (fun _ _ => by kernel_rfl) ?_
      with_reducible refine wpQuiet_nil ?_
      intro wx hC
      have HC := Lib.hid hC
      clear hC H1 HMO
      simp only [Act.put, List.setIfInBounds_toArray, List.set_cons_succ, List.set_cons_zero]
      go_wp2_with fail
      refine region_quiet_tail 6 (CRf w G m lo sq [(g7, pw s), (w.heap.size + 1 + 1, #[.int .u64 0, .int .u64 0, .int .u64 0, .int .u64 0]), (w.heap.size + 1, pw b), (w.heap.size, pw a)]) (by kernel_rfl) (by kernel_rfl) (HC.out.drew) ?_
      simp only [List.take_succ_cons, List.take_zero, List.drop_succ_cons, List.drop_zero]
      with_reducible refine q_load 24 (.tmp 7) (.pointer (some ⟨g7, 0, none⟩)) (.agg (pw s)) rfl (by kernel_rfl) (by kernel_rfl) (fun _ c => ld_pw (c.is _ _ (by simp))) ?_
      with_reducible refine q_val (.pointer (some ⟨G, 0, none⟩)) (by kernel_rfl) (fun _ _ => by kernel_rfl) ?_
      with_reducible refine q_val (.pointer (some ⟨G, 0, none⟩)) (by kernel_rfl) (fun _ _ => run_nil (.tmp 25) _ rfl (by kernel_rfl)) ?_
      with_reducible refine q_sem2 (Instr.fieldAt 61 (.pointer (some ⟨G, 0, none⟩)) 0) (.pointer (some ⟨G, 0, none⟩)) (by kernel_rfl) (by kernel_rfl) (fun w' _ => (rf_at G w').1) ?_
      with_reducible refine q_load 24 (.tmp 27) (.pointer (some ⟨G, 0, none⟩)) (.agg (pw m)) rfl (by kernel_rfl) (by kernel_rfl) (fun _ c => ld_rm c.fld) ?_
      with_reducible refine q_call 46 #[.agg (pw s), .agg (pw m)] (.agg (pw y)) (by kernel_rfl) (fun _ => by kernel_rfl) (CRf.calls HMI.out) ?_
      with_reducible refine wpQuiet_nil ?_
      intro wx hC
      have HC2 := Lib.hid hC
      clear hC HC HMI
      simp only [Act.put, List.setIfInBounds_toArray, List.set_cons_succ, List.set_cons_zero]
      go_wp2_with (refine wpList_store_row rfl 24 _ _ rfl (w.heap.size + 1 + 1) (pw y) rfl rfl 24 (#[.int .u64 0, .int .u64 0, .int .u64 0, .int .u64 0]) (by exact HC2.out.is _ _ (by simp)) (by rw [pw_size]; exact infoW4) (by first | rfl | (rw [pw_size]; rfl) | (rw [pw_size, pw_size])) (pw_one _) ?_)
      (try simp only [Act.put])
      refine bodyPost_ret (v := .agg (pw y)) (results_cell_row (p := 6) rfl _ _ (w.heap.size + 1 + 1) 24 (pw y) (0, 0) _ rfl (setRow_heap _ _ _ _ _ _ (by exact HC2.out.is _ (#[.int .u64 0, .int .u64 0, .int .u64 0, .int .u64 0]) (by simp))) Try.underlying24 rfl (by rw [pw_size]; exact infoW4)) rfl ⟨by rw [HQ.out], below_setRow HC2.out.old (by omega) _⟩
    · rw [decide_eq_false hq] at HMO
      have HQ := Lib.hid (HR2.out ho hq)
      clear HR HR2 ho hq HMI
      go_enter Try.func44, Try.ntmps44
      go_wp2_with (first | (refine wpList_ld rfl 24 _ rfl (.pointer (some ⟨w.heap.size, 0, none⟩)) (.agg (pw a)) rfl (ld_pw (by exact H0.out.is _ _ (by simp))) ?_) | (refine wpList_ld rfl 24 _ rfl (.pointer (some ⟨w.heap.size + 1, 0, none⟩)) (.agg (pw b)) rfl (ld_pw (by exact H0.out.is _ _ (by simp))) ?_))
      refine (HPL.out _).mono ?_
      rintro e w1 ⟨rfl, hb1⟩
      have H1 := Lib.hid ((H0.out.below hb1).lay (pw s))
      have G1 := Lib.hid (heap_alloc_new w1 (.cells (#[.int .u64 0, .int .u64 0, .int .u64 0, .int .u64 0]) 24))
      clear hb1 H0 HPL
      go_upto_region 2 with (refine wpList_store_row rfl 24 _ _ rfl w1.heap.size (pw s) rfl rfl 24 (#[.int .u64 0, .int .u64 0, .int .u64 0, .int .u64 0]) (by exact G1.out) (by rw [pw_size]; exact infoW4) (by rw [pw_size]; rfl) (pw_one _) ?_)
      obtain ⟨w2, hw2⟩ : ∃ w2, (w1.alloc (.cells (#[.int .u64 0, .int .u64 0, .int .u64 0, .int .u64 0]) 24)).setRow w1.heap.size (pw s) = w2 := ⟨_, rfl⟩
      obtain ⟨g7, hg7⟩ : ∃ g7, w1.heap.size = g7 := ⟨_, rfl⟩
      rw [hw2, hg7] at H1
      rw [hw2, hg7]
      clear hw2 hg7 G1
      refine wp_region_quiet (C := CRf w G m lo sq [(g7, pw s), (w.heap.size + 1 + 1, #[.int .u64 0, .int .u64 0, .int .u64 0, .int .u64 0]), (w.heap.size + 1, pw b), (w.heap.size, pw a)]) (by kernel_rfl) (by kernel_rfl) (H1.out.drew) ?_
      simp only
      with_reducible refine q_val (.bool false) (by kernel_rfl) (fun _ _ => by kernel_rfl) ?_
      with_reducible refine q_val (.bool false) (by kernel_rfl) (fun _ _ => by kernel_rfl) ?_
      with_reducible refine q_load 24 (.tmp 7) (.pointer (some ⟨g7, 0, none⟩)) (.agg (pw s)) rfl (by kernel_rfl) (by kernel_rfl) (fun _ c => ld_pw (c.is _ _ (by simp))) ?_
      with_reducible refine q_val (.pointer (some ⟨G, 0, none⟩)) (by kernel_rfl) (fun _ _ => by kernel_rfl) ?_
      with_reducible refine q_val (.pointer (some ⟨G, 0, none⟩)) (by kernel_rfl) (fun _ _ => run_nil (.tmp 18) _ rfl (by kernel_rfl)) ?_
      with_reducible refine q_sem2 (Instr.fieldAt 61 (.pointer (some ⟨G, 0, none⟩)) 0) (.pointer (some ⟨G, 0, none⟩)) (by kernel_rfl) (by kernel_rfl) (fun w' _ => (rf_at G w').1) ?_
      with_reducible refine q_load 24 (.tmp 20) (.pointer (some ⟨G, 0, none⟩)) (.agg (pw m)) rfl (by kernel_rfl) (by kernel_rfl) (fun _ c => ld_rm c.fld) ?_
      with_reducible refine q_call 45 #[.agg (pw s), .agg (pw m)] (.bool false) (by kernel_rfl) (fun _ => by kernel_rfl) (CRf.calls HMO.out) ?_
      with_reducible refine q_val (.bool false) (by kernel_rfl) (fun _ _ => by kernel_rfl) ?_
      with_reducible refine wpQuiet_nil ?_
      intro wx hC
      have HC := Lib.hid hC
      clear hC H1 HMO
      simp only [Act.put, List.setIfInBounds_toArray, List.set_cons_succ, List.set_cons_zero]
      go_wp2_with (first | (refine wpList_ld rfl 24 _ rfl (.pointer (some ⟨g7, 0, none⟩)) (.agg (pw s)) rfl (ld_pw (by exact HC.out.is _ _ (by simp))) ?_) | (refine wpList_store_row rfl 24 _ _ rfl (w.heap.size + 1 + 1) (pw s) rfl rfl 24 (#[.int .u64 0, .int .u64 0, .int .u64 0, .int .u64 0]) (by exact HC.out.is _ _ (by simp)) (by rw [pw_size]; exact infoW4) (by first | rfl | (rw [pw_size]; rfl) | (rw [pw_size, pw_size])) (pw_one _) ?_))
      (try simp only [Act.put])
      refine bodyPost_ret (v := .agg (pw s)) (results_cell_row (p := 6) rfl _ _ (w.heap.size + 1 + 1) 24 (pw s) (0, 0) _ rfl (setRow_heap _ _ _ _ _ _ (by exact HC.out.is _ (#[.int .u64 0, .int .u64 0, .int .u64 0, .int .u64 0]) (by simp))) Try.underlying24 rfl (by rw [pw_size]; exact infoW4)) rfl ⟨by rw [HQ.out], below_setRow HC.out.old (by omega) _⟩
end Go.Proofs.Ytfgefifplmhopaa
namespace Go.Proofs.Ytfgefifplmhopaa
open Go.RowKit
theorem arr_litS (t : Array Value) : t = ((List.range t.size).map fun i => t.getD i undef).toArray := by
  apply Array.ext
  · simp
  · intro i h1 h2
    simp [h1]
set_option maxRecDepth 100000 in
set_option maxHeartbeats 4000000 in
theorem rsub_any (G m lo sq a b : Nat) (hal : a < m) (hbl : b < m) (hm : m < 115792089237316195423570985008687907853269984665640564039457584007913129639936) (w : World) (hF : RFat w G m lo sq) : Calls Try.prog 19 #[(.pointer (some ⟨G, 0, none⟩)), .agg (pw a), .agg (pw b)] w fun e w' => e = .returned (.agg (pw ((a + (m - b)) % m))) ∧ Below w.heap.size w w' := by
  have H0 := Lib.hid (CRf.two hF a b)
  have HMO := Lib.hid (fun wx => moreW_any a b (by omega) (by omega) wx)
  have HMI := Lib.hid (fun wx => minusW_any a b (by omega) (by omega) wx)
  by_cases hq : b ≤ a
  · have HQ := Lib.hid (show pw (a + 115792089237316195423570985008687907853269984665640564039457584007913129639936 - b) = pw ((a + (m - b)) % m) from by
      apply pw_less
      have e : (a + (m - b)) % m = a - b := by
        rw [show a + (m - b) = a - b + m by omega, Nat.add_mod_right, Nat.mod_eq_of_lt (by omega)]
      omega)
    rw [decide_eq_true hq] at HMO
    obtain ⟨y, hy⟩ : ∃ y, a + 115792089237316195423570985008687907853269984665640564039457584007913129639936 - b = y := ⟨_, rfl⟩
    rw [hy] at HMI HQ
    obtain ⟨z, hz⟩ : ∃ z, pw ((a + (m - b)) % m) = z := ⟨_, rfl⟩
    rw [hz] at HQ ⊢
    clear hF hal hbl hm hq hy hz
    go_enter Try.func19, Try.ntmps19
    go_wp2_with (first | (refine wpList_ld rfl 24 _ rfl (.pointer (some ⟨w.heap.size, 0, none⟩)) (.agg (pw a)) rfl (ld_pw (by exact H0.out.is _ _ (by simp))) ?_) | (refine wpList_ld rfl 24 _ rfl (.pointer (some ⟨w.heap.size + 1, 0, none⟩)) (.agg (pw b)) rfl (ld_pw (by exact H0.out.is _ _ (by simp))) ?_))
    refine (HMO.out _).mono ?_
    rintro e w1 ⟨rfl, hb1⟩
    have H1 := Lib.hid (H0.out.below hb1)
    clear hb1 H0 HMO
    go_wp2_with (first | (refine wpList_ld rfl 24 _ rfl (.pointer (some ⟨w.heap.size, 0, none⟩)) (.agg (pw a)) rfl (ld_pw (by exact H1.out.is _ _ (by simp))) ?_) | (refine wpList_ld rfl 24 _ rfl (.pointer (some ⟨w.heap.size + 1, 0, none⟩)) (.agg (pw b)) rfl (ld_pw (by exact H1.out.is _ _ (by simp))) ?_))
    refine (HMI.out _).mono ?_
    rintro e w2 ⟨rfl, hb2⟩
    have H2 := Lib.hid (H1.out.below hb2)
    clear hb2 H1 HMI
    go_wp2_with (refine wpList_store_row rfl 24 _ _ rfl (w.heap.size + 1 + 1) (pw y) rfl rfl 24 (#[.int .u64 0, .int .u64 0, .int .u64 0, .int .u64 0]) (by exact H2.out.is _ _ (by simp)) (by rw [pw_size]; exact infoW4) (by first | rfl | (rw [pw_size]; rfl) | (rw [pw_size, pw_size])) (pw_one _) ?_)
    (try simp only [Act.put])
    refine bodyPost_ret (v := .agg (pw y)) (results_cell_row (p := 6) rfl _ _ (w.heap.size + 1 + 1) 24 (pw y) (0, 0) _ rfl (setRow_heap _ _ _ _ _ _ (by exact H2.out.is _ (#[.int .u64 0, .int .u64 0, .int .u64 0, .int .u64 0]) (by simp))) Try.underlying24 rfl (by rw [pw_size]; exact infoW4)) rfl ⟨by rw [HQ.out], below_setRow H2.out.old (by omega) _⟩
  · have hd : a + 115792089237316195423570985008687907853269984665640564039457584007913129639936 - b < 115792089237316195423570985008687907853269984665640564039457584007913129639936 := by omega
    have HPL := Lib.hid (fun wx => plusW_any (a + 115792089237316195423570985008687907853269984665640564039457584007913129639936 - b) m hd hm wx)
    have HQ := Lib.hid (show pw (a + 115792089237316195423570985008687907853269984665640564039457584007913129639936 - b + m) = pw ((a + (m - b)) % m) from by
      rw [Nat.mod_eq_of_lt (show a + (m - b) < m by omega)]
      apply pw_congr
      rw [show a + 115792089237316195423570985008687907853269984665640564039457584007913129639936 - b + m = a + (m - b) + 115792089237316195423570985008687907853269984665640564039457584007913129639936 by omega, Nat.add_mod_right])
    rw [decide_eq_false hq] at HMO
    obtain ⟨d, hd2⟩ : ∃ d, a + 115792089237316195423570985008687907853269984665640564039457584007913129639936 - b = d := ⟨_, rfl⟩
    rw [hd2] at HMI HPL HQ
    obtain ⟨y, hy⟩ : ∃ y, d + m = y := ⟨_, rfl⟩
    obtain ⟨ov, hov⟩ : ∃ ov, decide (115792089237316195423570985008687907853269984665640564039457584007913129639936 ≤ d + m) = ov := ⟨_, rfl⟩
    rw [hov, hy] at HPL
    rw [hy] at HQ
    obtain ⟨z, hz⟩ : ∃ z, pw ((a + (m - b)) % m) = z := ⟨_, rfl⟩
    rw [hz] at HQ ⊢
    clear hF hal hbl hm hq hy hz hd hd2 hov
    go_enter Try.func19, Try.ntmps19
    go_wp2_with (first | (refine wpList_ld rfl 24 _ rfl (.pointer (some ⟨w.heap.size, 0, none⟩)) (.agg (pw a)) rfl (ld_pw (by exact H0.out.is _ _ (by simp))) ?_) | (refine wpList_ld rfl 24 _ rfl (.pointer (some ⟨w.heap.size + 1, 0, none⟩)) (.agg (pw b)) rfl (ld_pw (by exact H0.out.is _ _ (by simp))) ?_))
    refine (HMO.out _).mono ?_
    rintro e w1 ⟨rfl, hb1⟩
    have H1 := Lib.hid (H0.out.below hb1)
    clear hb1 H0 HMO
    go_wp2_with fail
    refine region_many [.val 16 ((.agg (pw a))), .val 17 ((.agg (pw b))), .val 18 ((.agg (pw d))), .val 19 ((.pointer (some ⟨G, 0, none⟩))), .val 20 ((.pointer (some ⟨G, 0, none⟩))), .val 21 ((.pointer (some ⟨G, 0, none⟩))), .val 22 ((.agg (pw m))), .val 23 ((.tuple #[.agg (pw y), .bool ov])), .val 15 ((.tuple #[.agg (pw y), .bool ov])), .val 24 ((.agg (pw y))), .val 25 ((.bool ov)), .blk 7 24, .laid 7 24, .val 8 ((.bool ov))] [7] (fun p => pw y) (fun i => i) (by kernel_rfl) (by kernel_rfl) (by exact ⟨trivial, trivial, trivial, trivial, trivial, trivial, trivial, trivial, trivial, trivial, trivial, (by simp [Sp.ok]), (by simp [Sp.ok]), trivial, trivial⟩) (by intro p hp q hq hne; simp only [List.mem_cons, List.not_mem_nil, or_false] at hp hq; exact absurd (hp.trans hq.symm) hne) ?_ ?_
    · refine ⟨?_, ?_, ?_, ?_, ?_, ?_, ?_, ?_, ?_, ?_, ?_, ?_, ?_, ?_, trivial⟩
      · intro ac wx hC hsz hK
        have h0 : ac.tmps.getD 4 undef = (.pointer (some ⟨w.heap.size, 0, none⟩)) := hK.1 4 (by kernel_rfl)
        exact mm_load 24 (.tmp 4) ((.pointer (some ⟨w.heap.size, 0, none⟩))) ((.agg (pw a))) rfl rfl (by kernel_rfl) h0 (ld_pw ((H1.out.below hC.1).is _ _ (by simp))) hC (by kernel_rfl) (by rw [hsz]; exact of_decide_eq_true (by kernel_rfl)) rfl
      · intro ac wx hC hsz hK
        have h0 : ac.tmps.getD 5 undef = (.pointer (some ⟨w.heap.size + 1, 0, none⟩)) := hK.1 5 (by kernel_rfl)
        exact mm_load 24 (.tmp 5) ((.pointer (some ⟨w.heap.size + 1, 0, none⟩))) ((.agg (pw b))) rfl rfl (by kernel_rfl) h0 (ld_pw ((H1.out.below hC.1).is _ _ (by simp))) hC (by kernel_rfl) (by rw [hsz]; exact of_decide_eq_true (by kernel_rfl)) rfl
      · intro ac wx hC hsz hK
        have h0 : ac.tmps.getD 16 undef = (.agg (pw a)) := hK.2 ⟨0, .data⟩ (by simp) rfl _ rfl
        have h1 : ac.tmps.getD 17 undef = (.agg (pw b)) := hK.2 ⟨1, .data⟩ (by simp) rfl _ rfl
        refine mm_call 46 #[ac.tmps.getD 16 undef, ac.tmps.getD 17 undef] ((.agg (pw d))) rfl (by kernel_rfl) (by kernel_rfl) ?_ hC (by kernel_rfl) (by rw [hsz]; exact of_decide_eq_true (by kernel_rfl)) rfl
        rw [h0, h1]
        exact HMI.out wx
      · intro ac wx hC hsz hK
        have h0 : ac.tmps.getD 0 undef = (.pointer (some ⟨G, 0, none⟩)) := hK.1 0 (by kernel_rfl)
        exact mm_val ((.pointer (some ⟨G, 0, none⟩))) rfl (by kernel_rfl) (by rw [← h0]; kernel_rfl) hC (by kernel_rfl) (by rw [hsz]; exact of_decide_eq_true (by kernel_rfl)) rfl
      · intro ac wx hC hsz hK
        have h0 : ac.tmps.getD 19 undef = (.pointer (some ⟨G, 0, none⟩)) := hK.2 ⟨3, .data⟩ (by simp) rfl _ rfl
        exact mm_val ((.pointer (some ⟨G, 0, none⟩))) rfl (by kernel_rfl) (run_nil (.tmp 19) _ rfl h0) hC (by kernel_rfl) (by rw [hsz]; exact of_decide_eq_true (by kernel_rfl)) rfl
      · intro ac wx hC hsz hK
        have h0 : ac.tmps.getD 20 undef = (.pointer (some ⟨G, 0, none⟩)) := hK.2 ⟨4, .data⟩ (by simp) rfl _ rfl
        refine mm_sem (Instr.fieldAt 61 (ac.tmps.getD 20 undef) 0) ((.pointer (some ⟨G, 0, none⟩))) rfl (by kernel_rfl) (by kernel_rfl) ?_ hC (by kernel_rfl) (by rw [hsz]; exact of_decide_eq_true (by kernel_rfl)) rfl
        rw [h0]
        exact (rf_at G wx).1
      · intro ac wx hC hsz hK
        have h0 : ac.tmps.getD 21 undef = (.pointer (some ⟨G, 0, none⟩)) := hK.2 ⟨5, .data⟩ (by simp) rfl _ rfl
        exact mm_load 24 (.tmp 21) ((.pointer (some ⟨G, 0, none⟩))) ((.agg (pw m))) rfl rfl (by kernel_rfl) h0 (ld_rm (H1.out.below hC.1).fld) hC (by kernel_rfl) (by rw [hsz]; exact of_decide_eq_true (by kernel_rfl)) rfl
      · intro ac wx hC hsz hK
        have h0 : ac.tmps.getD 18 undef = (.agg (pw d)) := hK.2 ⟨2, .data⟩ (by simp) rfl _ rfl
        have h1 : ac.tmps.getD 22 undef = (.agg (pw m)) := hK.2 ⟨6, .data⟩ (by simp) rfl _ rfl
        refine mm_call 47 #[ac.tmps.getD 18 undef, ac.tmps.getD 22 undef] ((.tuple #[.agg (pw y), .bool ov])) rfl (by kernel_rfl) (by kernel_rfl) ?_ hC (by kernel_rfl) (by rw [hsz]; exact of_decide_eq_true (by kernel_rfl)) rfl
        rw [h0, h1]
        exact HPL.out wx
      · intro ac wx hC hsz hK
        have h0 : ac.tmps.getD 23 undef = (.tuple #[.agg (pw y), .bool ov]) := hK.2 ⟨7, .data⟩ (by simp) rfl _ rfl
        exact mm_val ((.tuple #[.agg (pw y), .bool ov])) rfl (by kernel_rfl) (by rw [← h0]; kernel_rfl) hC (by kernel_rfl) (by rw [hsz]; exact of_decide_eq_true (by kernel_rfl)) rfl
      · intro ac wx hC hsz hK
        have h0 : ac.tmps.getD 15 undef = (.tuple #[.agg (pw y), .bool ov]) := hK.2 ⟨8, .data⟩ (by simp) rfl _ rfl
        refine mm_sem (Instr.extract (ac.tmps.getD 15 undef) 0) ((.agg (pw y))) rfl (by kernel_rfl) (by kernel_rfl) ?_ hC (by kernel_rfl) (by rw [hsz]; exact of_decide_eq_true (by kernel_rfl)) rfl
        rw [h0]
        exact (by kernel_rfl)
      · intro ac wx hC hsz hK
        have h0 : ac.tmps.getD 15 undef = (.tuple #[.agg (pw y), .bool ov]) := hK.2 ⟨8, .data⟩ (by simp) rfl _ rfl
        refine mm_sem (Instr.extract (ac.tmps.getD 15 undef) 1) ((.bool ov)) rfl (by kernel_rfl) (by kernel_rfl) ?_ hC (by kernel_rfl) (by rw [hsz]; exact of_decide_eq_true (by kernel_rfl)) rfl
        rw [h0]
        exact (by kernel_rfl)
      · intro ac wx hC hsz hK
        exact mm_new 24 (#[.int .u64 0, .int .u64 0, .int .u64 0, .int .u64 0]) rfl (by kernel_rfl) (by kernel_rfl) hC (by rw [pw_size]; rfl) (by rw [hsz]; exact of_decide_eq_true (by kernel_rfl)) rfl
      · intro ac wx hC hsz hK
        have h0 : ac.tmps.getD 24 undef = (.agg (pw y)) := hK.2 ⟨9, .data⟩ (by simp) rfl _ rfl
        exact mm_store (p := 7) 24 (.tmp 7) (.tmp 24) _ rfl rfl (by kernel_rfl) rfl h0 (by simp) (hK.2 ⟨11, .data⟩ (by simp) rfl _ rfl) (fun D cs h3 h4 => store_w (h4.trans (pw_size _)) h3) hC rfl
      · intro ac wx hC hsz hK
        have h0 : ac.tmps.getD 25 undef = (.bool ov) := hK.2 ⟨10, .data⟩ (by simp) rfl _ rfl
        exact mm_val ((.bool ov)) rfl (by kernel_rfl) (by rw [← h0]; kernel_rfl) hC (by kernel_rfl) (by rw [hsz]; exact of_decide_eq_true (by kernel_rfl)) rfl
    intro f1 w5 hb5 hap hf5
    obtain ⟨D7, s7, -, r7⟩ := hf5 12 _ rfl
    have H5 := Lib.hid ((H1.out.below hb5).cons r7)
    clear hf5 hap hb5 H1 HMI HPL r7
    generalize hAct : putAll _ _ _ = A1 at *
    have s7' : A1.tmps.getD 7 undef = .pointer (some ⟨D7, 0, none⟩) := s7
    have s6 : A1.tmps.getD 6 undef = .pointer (some ⟨w.heap.size + 1 + 1, 0, none⟩) := by subst hAct; kernel_rfl
    have hsz : A1.tmps.size = 27 := by rw [← hAct, putAll_size]; rfl
    have hdf : A1.defers = [] := by subst hAct; kernel_rfl
    clear hAct s7 f1
    obtain ⟨u0, t0⟩ : ∃ u, A1.tmps.getD 0 undef = u := ⟨_, rfl⟩
    obtain ⟨u1, t1⟩ : ∃ u, A1.tmps.getD 1 undef = u := ⟨_, rfl⟩
    obtain ⟨u2, t2⟩ : ∃ u, A1.tmps.getD 2 undef = u := ⟨_, rfl⟩
    obtain ⟨u3, t3⟩ : ∃ u, A1.tmps.getD 3 undef = u := ⟨_, rfl⟩
    obtain ⟨u4, t4⟩ : ∃ u, A1.tmps.getD 4 undef = u := ⟨_, rfl⟩
    obtain ⟨u5, t5⟩ : ∃ u, A1.tmps.getD 5 undef = u := ⟨_, rfl⟩
    obtain ⟨u8, t8⟩ : ∃ u, A1.tmps.getD 8 undef = u := ⟨_, rfl⟩
    obtain ⟨u9, t9⟩ : ∃ u, A1.tmps.getD 9 undef = u := ⟨_, rfl⟩
    obtain ⟨u10, t10⟩ : ∃ u, A1.tmps.getD 10 undef = u := ⟨_, rfl⟩
    obtain ⟨u11, t11⟩ : ∃ u, A1.tmps.getD 11 undef = u := ⟨_, rfl⟩
    obtain ⟨u12, t12⟩ : ∃ u, A1.tmps.getD 12 undef = u := ⟨_, rfl⟩
    obtain ⟨u13, t13⟩ : ∃ u, A1.tmps.getD 13 undef = u := ⟨_, rfl⟩
    obtain ⟨u14, t14⟩ : ∃ u, A1.tmps.getD 14 undef = u := ⟨_, rfl⟩
    obtain ⟨u15, t15⟩ : ∃ u, A1.tmps.getD 15 undef = u := ⟨_, rfl⟩
    obtain ⟨u16, t16⟩ : ∃ u, A1.tmps.getD 16 undef = u := ⟨_, rfl⟩
    obtain ⟨u17, t17⟩ : ∃ u, A1.tmps.getD 17 undef = u := ⟨_, rfl⟩
    obtain ⟨u18, t18⟩ : ∃ u, A1.tmps.getD 18 undef = u := ⟨_, rfl⟩
    obtain ⟨u19, t19⟩ : ∃ u, A1.tmps.getD 19 undef = u := ⟨_, rfl⟩
    obtain ⟨u20, t20⟩ : ∃ u, A1.tmps.getD 20 undef = u := ⟨_, rfl⟩
    obtain ⟨u21, t21⟩ : ∃ u, A1.tmps.getD 21 undef = u := ⟨_, rfl⟩
    obtain ⟨u22, t22⟩ : ∃ u, A1.tmps.getD 22 undef = u := ⟨_, rfl⟩
    obtain ⟨u23, t23⟩ : ∃ u, A1.tmps.getD 23 undef = u := ⟨_, rfl⟩
    obtain ⟨u24, t24⟩ : ∃ u, A1.tmps.getD 24 undef = u := ⟨_, rfl⟩
    obtain ⟨u25, t25⟩ : ∃ u, A1.tmps.getD 25 undef = u := ⟨_, rfl⟩
    obtain ⟨u26, t26⟩ : ∃ u, A1.tmps.getD 26 undef = u := ⟨_, rfl⟩
    obtain ⟨tm, df⟩ := A1
    simp only at *
    have hLt := arr_litS tm
    rw [hsz] at hLt
    simp only [List.range, List.range.loop, List.map] at hLt
    rw [t0, t1, t2, t3, t4, t5, s6, s7', t8, t9, t10, t11, t12, t13, t14, t15, t16, t17, t18, t19, t20, t21, t22, t23, t24, t25, t26] at hLt
    subst hLt hdf
    clear t0 t1 t2 t3 t4 t5 s6 s7' t8 t9 t10 t11 t12 t13 t14 t15 t16 t17 t18 t19 t20 t21 t22 t23 t24 t25 t26 hsz
    go_wp2_with (first | (refine wpList_ld rfl 24 _ rfl (.pointer (some ⟨D7, 0, none⟩)) (.agg (pw y)) rfl (ld_pw (by exact H5.out.is _ _ (by simp))) ?_) | (refine wpList_store_row rfl 24 _ _ rfl (w.heap.size + 1 + 1) (pw y) rfl rfl 24 (#[.int .u64 0, .int .u64 0, .int .u64 0, .int .u64 0]) (by exact H5.out.is _ _ (by simp)) (by rw [pw_size]; exact infoW4) (by first | rfl | (rw [pw_size]; rfl) | (rw [pw_size, pw_size])) (pw_one _) ?_))
    (try simp only [Act.put])
    refine bodyPost_ret (v := .agg (pw y)) (results_cell_row (p := 6) rfl _ _ (w.heap.size + 1 + 1) 24 (pw y) (0, 0) _ rfl (setRow_heap _ _ _ _ _ _ (by exact H5.out.is _ (#[.int .u64 0, .int .u64 0, .int .u64 0, .int .u64 0]) (by simp))) Try.underlying24 rfl (by rw [pw_size]; exact infoW4)) rfl ⟨by rw [HQ.out], below_setRow H5.out.old (by omega) _⟩
end Go.Proofs.Ytfgefifplmhopaa
namespace Go.Proofs.Ytfgefifplmhopaa
open Go.RowKit
theorem sq_pow (m k e : Nat) (hk : k = e + e) (he : 2 ^ e = 115792089237316195423570985008687907853269984665640564039457584007913129639936) : 2 ^ k % m = 115792089237316195423570985008687907853269984665640564039457584007913129639936 * 115792089237316195423570985008687907853269984665640564039457584007913129639936 % m := by rw [hk, Nat.pow_add, he]
theorem row17 (m : Nat) : (#[.int .u64 ((pN m 0 : Nat) : Int), .int .u64 ((pN m 1 : Nat) : Int), .int .u64 ((pN m 2 : Nat) : Int), .int .u64 ((pN m 3 : Nat) : Int), .int .u64 ((qN m 0 : Nat) : Int), .int .u64 ((qN m 1 : Nat) : Int), .int .u64 ((qN m 2 : Nat) : Int), .int .u64 ((qN m 3 : Nat) : Int), .int .u64 ((qN m 4 : Nat) : Int), .int .u64 ((qN m 5 : Nat) : Int), .int .u64 ((qN m 6 : Nat) : Int), .int .u64 ((qN m 7 : Nat) : Int), .int .u64 1, .int .u64 0, .int .u64 0, .int .u64 0, .int .u64 0] : Array Value) = ar .u64 17 fun j => ((rfw m 1 0 j : Nat) : Int) := by kernel_rfl
theorem q8_lit (m : Nat) : (ar .u64 8 fun j => ((qN m j : Nat) : Int)) = #[.int .u64 ((qN m 0 : Nat) : Int), .int .u64 ((qN m 1 : Nat) : Int), .int .u64 ((qN m 2 : Nat) : Int), .int .u64 ((qN m 3 : Nat) : Int), .int .u64 ((qN m 4 : Nat) : Int), .int .u64 ((qN m 5 : Nat) : Int), .int .u64 ((qN m 6 : Nat) : Int), .int .u64 ((qN m 7 : Nat) : Int)] := by kernel_rfl
/-- The worlds of New. -/
structure CNw (w : World) (G m lo sq : Nat) (wx : World) : Prop where
  old : Below w.heap.size w wx
  hG : w.heap.size ≤ G
  fld : RFat wx G m lo sq
theorem CNw.below {w wx w' : World} {G m lo sq : Nat} (c : CNw w G m lo sq wx) (hb : Below wx.heap.size wx w') : CNw w G m lo sq w' := ⟨c.old.trans (hb.mono c.old.size), c.hG, c.fld.below hb⟩
theorem CNw.drew {w wx : World} {G m lo sq : Nat} (c : CNw w G m lo sq wx) : CNw w G m lo sq wx.drew := c.below (Below.drew (Below.refl _ _))
theorem CNw.calls {w : World} {G m lo sq : Nat} {f : FuncId} {args : Array Value} {v : Value} (h : ∀ wx, RFat wx G m lo sq → Calls Try.prog f args wx fun e w' => e = .returned v ∧ Below wx.heap.size wx w') : ∀ wx, CNw w G m lo sq wx → Calls Try.prog f args wx fun e w' => e = .returned v ∧ CNw w G m lo sq w' :=
  fun wx c => (h wx c.fld).mono fun _ _ hh => ⟨hh.1, c.below hh.2⟩
/-- Low, as it lies there. -/
def lowOf (G : Nat) (w : World) : Nat := match w.cell? ⟨G, 12, none⟩ with | some (.int _ x) => x.toNat | _ => 0
theorem lowOf_is {w : World} {G m lo sq : Nat} (h : RFat w G m lo sq) : lowOf G w = lo := by
  unfold lowOf
  rw [h.cell 12 (by omega), rfw_lo]
  simp
set_option maxRecDepth 100000 in
set_option maxHeartbeats 4000000 in
theorem rnew_any (m : Nat) (hm : m < 115792089237316195423570985008687907853269984665640564039457584007913129639936) (ho : m % 2 = 1) (h1 : 1 < m) (w : World) : Calls Try.prog 18 #[.agg (pw m)] w fun e w' => ∃ v, e = .returned v ∧ (∃ G, v = (.pointer (some ⟨G, 0, none⟩)) ∧ w.heap.size ≤ G ∧ ∃ lo, lo < 4294967296 ∧ (lo * qN m 0 + 1) % 4294967296 = 0 ∧ RFat w' G m lo (115792089237316195423570985008687907853269984665640564039457584007913129639936 * 115792089237316195423570985008687907853269984665640564039457584007913129639936 % m)) ∧ Below w.heap.size w w' := by
  have H0 := Lib.hid (CBm.start w m)
  have HP := Lib.hid (fun wx => rparts_any m wx)
  rw [q8_lit] at HP
  have HO := Lib.hid (And.intro hm (And.intro ho h1))
  have HQ0 := Lib.hid (show qN m 0 % 2 = 1 from by unfold qN; simp; omega)
  clear hm ho h1
  go_enter Try.func18, Try.ntmps18
  go_wp2_with fail
  refine region_quiet_tail 4 (CBm w m) (by kernel_rfl) (by kernel_rfl) (H0.out.drew) ?_
  simp only [List.take_succ_cons, List.take_zero, List.drop_succ_cons, List.drop_zero]
  with_reducible refine q_load 24 (.tmp 1) (.pointer (some ⟨w.heap.size, 0, none⟩)) (.agg #[.int .u64 ((pN m 0 : Nat) : Int), .int .u64 ((pN m 1 : Nat) : Int), .int .u64 ((pN m 2 : Nat) : Int), .int .u64 ((pN m 3 : Nat) : Int)]) rfl (by kernel_rfl) (by kernel_rfl) (fun _ c => (by rw [← pw4]; exact ld_pw c.r0)) ?_
  with_reducible refine q_load 24 (.tmp 1) (.pointer (some ⟨w.heap.size, 0, none⟩)) (.agg (pw m)) rfl (by kernel_rfl) (by kernel_rfl) (fun _ c => ld_pw c.r0) ?_
  with_reducible refine q_call 43 #[.agg (pw m)] (.agg #[.int .u64 ((qN m 0 : Nat) : Int), .int .u64 ((qN m 1 : Nat) : Int), .int .u64 ((qN m 2 : Nat) : Int), .int .u64 ((qN m 3 : Nat) : Int), .int .u64 ((qN m 4 : Nat) : Int), .int .u64 ((qN m 5 : Nat) : Int), .int .u64 ((qN m 6 : Nat) : Int), .int .u64 ((qN m 7 : Nat) : Int)]) (by kernel_rfl) (fun _ => by kernel_rfl) (CBm.calls HP.out) ?_
  with_reducible refine q_val (.agg #[.int .u64 ((pN m 0 : Nat) : Int), .int .u64 ((pN m 1 : Nat) : Int), .int .u64 ((pN m 2 : Nat) : Int), .int .u64 ((pN m 3 : Nat) : Int), .int .u64 ((qN m 0 : Nat) : Int), .int .u64 ((qN m 1 : Nat) : Int), .int .u64 ((qN m 2 : Nat) : Int), .int .u64 ((qN m 3 : Nat) : Int), .int .u64 ((qN m 4 : Nat) : Int), .int .u64 ((qN m 5 : Nat) : Int), .int .u64 ((qN m 6 : Nat) : Int), .int .u64 ((qN m 7 : Nat) : Int), .int .u64 1, .int .u64 0, .int .u64 0, .int .u64 0, .int .u64 0]) (by kernel_rfl) (fun _ _ => by kernel_rfl) ?_
  with_reducible refine wpQuiet_nil ?_
  intro wx hC
  have HC := Lib.hid hC
  clear hC H0 HP
  simp only [Act.put, List.setIfInBounds_toArray, List.set_cons_succ, List.set_cons_zero]
  go_wp2_with fail
  obtain ⟨w1, hw1⟩ : ∃ w1, wx.alloc (.cells (#[.int .u64 ((pN m 0 : Nat) : Int), .int .u64 ((pN m 1 : Nat) : Int), .int .u64 ((pN m 2 : Nat) : Int), .int .u64 ((pN m 3 : Nat) : Int), .int .u64 ((qN m 0 : Nat) : Int), .int .u64 ((qN m 1 : Nat) : Int), .int .u64 ((qN m 2 : Nat) : Int), .int .u64 ((qN m 3 : Nat) : Int), .int .u64 ((qN m 4 : Nat) : Int), .int .u64 ((qN m 5 : Nat) : Int), .int .u64 ((qN m 6 : Nat) : Int), .int .u64 ((qN m 7 : Nat) : Int), .int .u64 1, .int .u64 0, .int .u64 0, .int .u64 0, .int .u64 0]) 61) = w1 := ⟨_, rfl⟩
  obtain ⟨G, hG⟩ : ∃ G, wx.heap.size = G := ⟨_, rfl⟩
  have H1 := Lib.hid (show CNw w G m 1 0 w1 from by
    refine ⟨by rw [← hw1]; exact HC.out.old.alloc HC.out.old.size _, by rw [← hG]; exact HC.out.old.size, ?_⟩
    unfold RFat
    rw [← hw1, ← hG, row17]
    exact heap_alloc_new _ _)
  rw [hw1, hG]
  clear hw1 hG HC
  go_loopw [] (fun wr => ∃ lo : Nat, Hid (LowI (qN m 0) lo ∧ CNw w G m lo 0 wr)) (fun wr => 4294967296 - lowOf G wr)
  case atStart => exact ⟨1, Lib.hid ⟨LowI.start HQ0.out, H1.out⟩⟩
  case round =>
    obtain ⟨lo, H⟩ := hrel
    clear H1
    have hll := H.out.1.lt
    have hql := qN_lt m 0
    have c12 := H.out.2.fld.cell 12 (by omega)
    have c4 := H.out.2.fld.cell 4 (by omega)
    have f12 := frozen_of_row wr G 12 _ _ H.out.2.fld
    rw [rfw_lo] at c12
    rw [show rfw m lo 0 4 = qN m 0 from rfw_q m lo 0 0 (by omega)] at c4
    obtain ⟨q, hq⟩ : ∃ q, qN m 0 = q := ⟨_, rfl⟩
    rw [hq] at c4 hql
    have hpl : lo * q ≤ 4294967295 * 4294967295 := Nat.mul_le_mul (by omega) (by omega)
    obtain ⟨pr, hpr⟩ : ∃ pr, lo * q = pr := ⟨_, rfl⟩
    obtain ⟨c, hc⟩ : ∃ c, pr % 4294967296 = c := ⟨_, rfl⟩
    rw [hpr] at hpl
    have hW : IntKind.u64.wrap ((lo : Int) * (q : Int)) = (pr : Int) := by rw [IntKind.wrap_u64, ← hpr, Int.natCast_mul]; have : (lo : Int) * q = (pr : Int) := by rw [← hpr, Int.natCast_mul]
                                                                           omega
    have hA : bits .and .u64 (pr : Int) 4294967295 = (c : Int) := by rw [and_low32 pr (by omega), hc]
    have HPR := Lib.hid (And.intro hq (And.intro hpr hc))
    by_cases he : c = 4294967295
    · subst he
      have HF := Lib.hid (show lo < 4294967296 ∧ (lo * qN m 0 + 1) % 4294967296 = 0 from ⟨hll, LowI.done (by rw [hq, hpr, hc])⟩)
      clear hc hll hql hpl hq hpr HPR
      go_wp2_with fail
      go_region
      go_wp2_with (refine wpList_store_mid rfl 24 _ _ rfl G 13 (pw 1) rfl rfl (by exact H.out.2.drew.fld.there 1) (by rw [pw_size]; exact infoW4) (pw_one _) ?_)
      obtain ⟨w3, hw3⟩ : ∃ w3, wr.drew.setCells G 13 (pw 1).toList = w3 := ⟨_, rfl⟩
      have H3 := Lib.hid (show CNw w G m lo (2 ^ 0 % m) w3 from by
        rw [show 2 ^ 0 % m = 1 from by rw [Nat.pow_zero]; exact Nat.mod_eq_of_lt HO.out.2.2, ← hw3]
        exact ⟨tab_below _ _ H.out.2.drew.old H.out.2.hG, H.out.2.hG, H.out.2.drew.fld.sq 1⟩)
      rw [hw3]
      clear hw3 H hW hA c12 c4 f12
      go_loopw [5] (fun iv wr => ∃ k : Nat, k ≤ 512 ∧ iv = .int .i64 k ∧ Hid (CNw w G m lo (2 ^ k % m) wr)) (fun iv _ => 512 - (intOf iv).toNat)
      case atStart => exact ⟨0, by omega, rfl, H3⟩
      case round =>
        obtain ⟨k, hk, rfl, H⟩ := hrel
        clear H3
        have hk0 : (0 : Int) ≤ k := by omega
        by_cases hlt : k < 512
        · have hlt' : (k : Int) < 512 := by omega
          have hm0 : 0 < m := by have := HO.out.2.2; omega
          obtain ⟨x, hx⟩ : ∃ x, 2 ^ k % m = x := ⟨_, rfl⟩
          have hxm : x < m := by rw [← hx]; exact Nat.mod_lt _ hm0
          have HX := Lib.hid (show (x + x) % m = 2 ^ (k + 1) % m from by rw [← hx, Nat.pow_succ, Nat.mul_two, ← Nat.add_mod])
          obtain ⟨y, hy⟩ : ∃ y, (x + x) % m = y := ⟨_, rfl⟩
          rw [hx] at H
          have HAD := Lib.hid (fun wx (hf : RFat wx G m lo x) => radd_any G m lo x x x hxm hxm HO.out.1 wx hf)
          rw [hy] at HX HAD
          have HK := Lib.hid hlt
          clear hx hxm hy hm0 hlt hk
          go_wp2_with fail
          refine region_quiet_tail 11 (CNw w G m lo x) (by kernel_rfl) (by kernel_rfl) (H.out.drew) ?_
          simp only [List.take_succ_cons, List.take_zero, List.drop_succ_cons, List.drop_zero]
          with_reducible refine q_val (.pointer (some ⟨G, 0, none⟩)) (by kernel_rfl) (fun _ _ => by kernel_rfl) ?_
          with_reducible refine q_val (.pointer (some ⟨G, 0, none⟩)) (by kernel_rfl) (fun _ _ => by kernel_rfl) ?_
          with_reducible refine q_val (.pointer (some ⟨G, 0, none⟩)) (by kernel_rfl) (fun _ _ => by kernel_rfl) ?_
          with_reducible refine q_val (.pointer (some ⟨G, 0, none⟩)) (by kernel_rfl) (fun _ _ => run_nil (.tmp 57) _ rfl (by kernel_rfl)) ?_
          with_reducible refine q_sem2 (Instr.fieldAt 61 (.pointer (some ⟨G, 0, none⟩)) 3) (.pointer (some ⟨G, 13, none⟩)) (by kernel_rfl) (by kernel_rfl) (fun w' _ => (rf_at G w').2.2.2) ?_
          with_reducible refine q_load 24 (.tmp 59) (.pointer (some ⟨G, 13, none⟩)) (.agg (pw x)) rfl (by kernel_rfl) (by kernel_rfl) (fun _ c => ld_rsq c.fld) ?_
          with_reducible refine q_val (.pointer (some ⟨G, 0, none⟩)) (by kernel_rfl) (fun _ _ => by kernel_rfl) ?_
          with_reducible refine q_val (.pointer (some ⟨G, 0, none⟩)) (by kernel_rfl) (fun _ _ => run_nil (.tmp 61) _ rfl (by kernel_rfl)) ?_
          with_reducible refine q_sem2 (Instr.fieldAt 61 (.pointer (some ⟨G, 0, none⟩)) 3) (.pointer (some ⟨G, 13, none⟩)) (by kernel_rfl) (by kernel_rfl) (fun w' _ => (rf_at G w').2.2.2) ?_
          with_reducible refine q_load 24 (.tmp 63) (.pointer (some ⟨G, 13, none⟩)) (.agg (pw x)) rfl (by kernel_rfl) (by kernel_rfl) (fun _ c => ld_rsq c.fld) ?_
          with_reducible refine q_call 44 #[.pointer (some ⟨G, 0, none⟩), .agg (pw x), .agg (pw x)] (.agg (pw y)) (by kernel_rfl) (fun _ => by kernel_rfl) (CNw.calls HAD.out) ?_
          with_reducible refine wpQuiet_nil ?_
          intro wx hC
          have HC := Lib.hid hC
          clear hC H
          simp only [Act.put, List.setIfInBounds_toArray, List.set_cons_succ, List.set_cons_zero]
          go_wp2_with (refine wpList_store_mid rfl 24 _ _ rfl G 13 (pw y) rfl rfl (by exact HC.out.fld.there y) (by rw [pw_size]; exact infoW4) (pw_one _) ?_)
          go_roundw
          case rel => exact ⟨k + 1, by have := HK.out; omega, by go_num, Lib.hid (by rw [← HX.out]; exact ⟨tab_below _ _ HC.out.old HC.out.hG, HC.out.hG, HC.out.fld.sq y⟩)⟩
          case measure => have := HK.out; simp [intOf]; omega
        · have hlt' : ¬ (k : Int) < 512 := by omega
          have HK := Lib.hid (show k = 512 by omega)
          clear hlt hk
          go_wp2_with fail
          go_ret
          refine ⟨_, rfl, ⟨G, rfl, H.out.hG, lo, HF.out.1, HF.out.2, ?_⟩, H.out.old⟩
          have h := H.out.fld
          rwa [sq_pow m k 256 (by have := HK.out; omega) rfl] at h
    · obtain ⟨L, hL⟩ : ∃ L, 4294967295 - c = L := ⟨_, rfl⟩
      have hcl : c < 4294967296 := by rw [← hc]; exact Nat.mod_lt _ (by omega)
      obtain ⟨b, hb, hb0, hbl, hst⟩ := LowI.step H.out.1 HQ0.out (by rw [hq, hpr, hc]) he hL
      have hne : ¬ (c : Int) = 4294967295 := by omega
      have hx1 : bits .xor .u64 (if IntKind.u64.signed = true then -1 else IntKind.u64.max) (pr : Int) = ((18446744073709551615 - pr : Nat) : Int) := xor_ones (by omega)
      have hX : bits .and .u64 ((18446744073709551615 - pr : Nat) : Int) 4294967295 = (L : Int) := by
        have h := and_low32 (18446744073709551615 - pr) (by omega)
        rwa [show (18446744073709551615 - pr) % 4294967296 = L by omega] at h
      have hN : IntKind.u64.wrap (-(L : Int)) = ((18446744073709551616 - L : Nat) : Int) := by rw [IntKind.wrap_u64]; omega
      have hB : bits .and .u64 (L : Int) ((18446744073709551616 - L : Nat) : Int) = (b : Int) := by rw [bits_and_u64_nat _ _ (by omega) (by omega), hb]
      have hS : IntKind.u64.wrap ((lo : Int) + (b : Int)) = ((lo + b : Nat) : Int) := by rw [IntKind.wrap_u64]; omega
      have HS := Lib.hid (And.intro hst (And.intro hb0 hbl))
      obtain ⟨NL, hNL⟩ : ∃ NL, 18446744073709551616 - L = NL := ⟨_, rfl⟩
      obtain ⟨l2, hl2⟩ : ∃ l2, lo + b = l2 := ⟨_, rfl⟩
      rw [hNL] at hN hB
      rw [hl2] at hS HS
      have hE : IntKind.u64.wrap ((lo : Int) + bits .and .u64 (bits .and .u64 (bits .xor .u64 (if IntKind.u64.signed = true then -1 else IntKind.u64.max) (pr : Int)) 4294967295) (IntKind.u64.wrap (-bits .and .u64 (bits .xor .u64 (if IntKind.u64.signed = true then -1 else IntKind.u64.max) (pr : Int)) 4294967295))) = (l2 : Int) := by rw [hx1, hX, hN, hB, hS]
      have HE := Lib.hid hE
      clear hE hx1 hX hN hB hS
      have HL2 := Lib.hid (And.intro hl2 (lowOf_is H.out.2.fld))
      have hcn : ¬ c = 4294967295 := he
      clear hst hb hb0 hbl hNL hl2 hL hcl he hc hll hql hpl hq hpr HPR
      go_wp2_with fail
      go_region
      go_wp2_with fail
      go_region
      go_wp2_with fail
      go_roundw
      case rel => exact ⟨l2, Lib.hid ⟨HS.out.1, by rw [HE.out]; exact ⟨H.out.2.old.drew.drew.setCell H.out.2.hG _, H.out.2.hG, H.out.2.fld.lo l2⟩⟩⟩
      case measure =>
        rw [HE.out]
        have h1 : lowOf G (wr.setCell ⟨G, 12, none⟩ (.int .u64 (l2 : Nat))).drew.drew = l2 := lowOf_is (H.out.2.fld.lo l2)
        have h2 := HS.out.2
        have h3 := HL2.out
        show 4294967296 - lowOf G _ < 4294967296 - lowOf G _
        rw [h1, h3.2]
        omega
end Go.Proofs.Ytfgefifplmhopaa
namespace Go.Proofs.Ytfgefifplmhopaa
open Go.RowKit
theorem ramod_pw (a b m : Nat) (ha : a < 115792089237316195423570985008687907853269984665640564039457584007913129639936) (hb : b < 115792089237316195423570985008687907853269984665640564039457584007913129639936) (h0 : 0 < m) (hm : m < 115792089237316195423570985008687907853269984665640564039457584007913129639936) (w : World) : Calls Try.prog 12 #[.agg (pw a), .agg (pw b), .agg (pw m)] w fun e w' => e = .returned (.agg (pw ((a + b) % m))) ∧ Below w.heap.size w w' := by
  have h := addmod_ref a b m w
  rw [Nat.mod_eq_of_lt ha, Nat.mod_eq_of_lt hb, remV_of h0 hm] at h
  exact h
theorem rmmod_pw (a b m : Nat) (ha : a < 115792089237316195423570985008687907853269984665640564039457584007913129639936) (hb : b < 115792089237316195423570985008687907853269984665640564039457584007913129639936) (h0 : 0 < m) (hm : m < 115792089237316195423570985008687907853269984665640564039457584007913129639936) (w : World) : Calls Try.prog 16 #[.agg (pw a), .agg (pw b), .agg (pw m)] w fun e w' => e = .returned (.agg (pw (a * b % m))) ∧ Below w.heap.size w w' := by
  have h := mulmod_ref a b m w
  rw [Nat.mod_eq_of_lt ha, Nat.mod_eq_of_lt hb, remV_of h0 hm] at h
  exact h
/-- The worlds: the field, and words in blocks. -/
structure CRk (w : World) (F m : Nat) (L : List (Nat × Array Value)) (wx : World) : Prop where
  old : Below w.heap.size w wx
  fld : FldAt wx F m
  rows : ∀ r ∈ L, wx.heap[r.1]? = some (.cells r.2 24 (0, 0))
theorem CRk.is {w wx : World} {F m : Nat} {L : List (Nat × Array Value)} (c : CRk w F m L wx) (b : Nat) (cs : Array Value) (hm : (b, cs) ∈ L) : wx.heap[b]? = some (.cells cs 24 (0, 0)) := c.rows _ hm
theorem CRk.below {w wx w' : World} {F m : Nat} {L : List (Nat × Array Value)} (c : CRk w F m L wx) (hb : Below wx.heap.size wx w') : CRk w F m L w' :=
  ⟨c.old.trans (hb.mono c.old.size), c.fld.below hb, fun r hr => (hb.block _ (Array.getElem?_eq_some_iff.1 (c.rows r hr)).1).trans (c.rows r hr)⟩
theorem CRk.drew {w wx : World} {F m : Nat} {L : List (Nat × Array Value)} (c : CRk w F m L wx) : CRk w F m L wx.drew := c.below (Below.drew (Below.refl _ _))
theorem CRk.lay {w wx : World} {F m : Nat} {L : List (Nat × Array Value)} (c : CRk w F m L wx) (cs : Array Value) : CRk w F m ((wx.heap.size, cs) :: L) ((wx.alloc (.cells (#[.int .u64 0, .int .u64 0, .int .u64 0, .int .u64 0]) 24)).setRow wx.heap.size cs) := by
  have hb : Below wx.heap.size wx ((wx.alloc (.cells (#[.int .u64 0, .int .u64 0, .int .u64 0, .int .u64 0]) 24)).setRow wx.heap.size cs) := below_setRow ((Below.refl _ _).alloc (Nat.le_refl _) _) (Nat.le_refl _) _
  have c' := c.below hb
  refine ⟨c'.old, c'.fld, fun r hr => ?_⟩
  rcases List.mem_cons.1 hr with rfl | hr
  · exact setRow_heap _ _ _ _ _ _ (heap_alloc_new _ _)
  · exact c'.rows r hr
theorem CRk.calls {w : World} {F m : Nat} {L : List (Nat × Array Value)} {f : FuncId} {args : Array Value} {v : Value} (h : ∀ wx, FldAt wx F m → Calls Try.prog f args wx fun e w' => e = .returned v ∧ Below wx.heap.size wx w') : ∀ wx, CRk w F m L wx → Calls Try.prog f args wx fun e w' => e = .returned v ∧ CRk w F m L w' :=
  fun wx c => (h wx c.fld).mono fun _ _ hh => ⟨hh.1, c.below hh.2⟩
def RMade (m : Nat) (v : Value) (wx : World) : Prop := ∃ G, v = (.pointer (some ⟨G, 0, none⟩)) ∧ ∃ lo, RFat wx G m lo (115792089237316195423570985008687907853269984665640564039457584007913129639936 * 115792089237316195423570985008687907853269984665640564039457584007913129639936 % m)
set_option maxRecDepth 100000 in
set_option maxHeartbeats 4000000 in
theorem freckons_any (m a b : Nat) (hm : m < 115792089237316195423570985008687907853269984665640564039457584007913129639936) (ha : a < 115792089237316195423570985008687907853269984665640564039457584007913129639936) (hb : b < 115792089237316195423570985008687907853269984665640564039457584007913129639936) (w : World) : Calls Try.prog 3 #[.agg (pw m), .agg (pw a), .agg (pw b)] w fun e w' => e = .returned (.bool true) ∧ Below w.heap.size w w' := by
  have HA := Lib.hid (show ∀ w0, ((w.alloc (.cells (pw m) 24)).alloc (.cells (pw a) 24)).alloc (.cells (pw b) 24) = w0 → Below w.heap.size w w0 ∧ w0.heap[w.heap.size]? = some (.cells (pw m) 24 (0, 0)) ∧ w0.heap[w.heap.size + 1]? = some (.cells (pw a) 24 (0, 0)) ∧ w0.heap[w.heap.size + 1 + 1]? = some (.cells (pw b) 24 (0, 0)) from by
    rintro _ rfl
    refine ⟨?_, ?_, ?_, ?_⟩
    · exact (((Below.refl _ _).alloc (Nat.le_refl _) _).alloc (by simp) _).alloc (by simp; omega) _
    · rw [Below.heap_alloc _ _ _ (by simp; omega), Below.heap_alloc _ _ _ (by simp), heap_alloc_new]
    · rw [Below.heap_alloc _ _ _ (by simp)]
      have := heap_alloc_new (w.alloc (.cells (pw m) 24)) (.cells (pw a) 24)
      rwa [World.size_alloc] at this
    · have := heap_alloc_new ((w.alloc (.cells (pw m) 24)).alloc (.cells (pw a) 24)) (.cells (pw b) 24)
      rwa [World.size_alloc, World.size_alloc] at this)
  have HM := Lib.hid hm
  have HAB := Lib.hid (And.intro ha hb)
  clear ha hb
  by_cases hex : m % 2 = 0 ∨ m = 1
  · have HN := Lib.hid (fun wx => fnew_none m hm hex wx)
    have HI := Lib.hid (fun wx => ris_any m hm wx)
    rw [decide_eq_false (show ¬ (m % 2 = 1 ∧ m ≠ 1) by omega)] at HI
    clear hm hex HAB HM
    have H0 := Lib.hid (show _ from And.intro (HA.out _ rfl).1 (HA.out _ rfl).2.1)
    clear HA
    go_enter Try.func3, Try.ntmps3
    go_wp2_with (refine wpList_ld rfl 24 _ rfl (.pointer (some ⟨w.heap.size, 0, none⟩)) (.agg (pw m)) rfl (ld_pw (by exact H0.out.2)) ?_)
    refine (HN.out _).mono ?_
    rintro e w1 ⟨rfl, hb1⟩
    have H1 := Lib.hid (show Below w.heap.size w w1 ∧ w1.heap[w.heap.size]? = some (.cells (pw m) 24 (0, 0)) from ⟨H0.out.1.trans (hb1.mono H0.out.1.size), (hb1.block _ (Array.getElem?_eq_some_iff.1 H0.out.2).1).trans H0.out.2⟩)
    clear hb1 H0
    go_wp2_with (refine wpList_ld rfl 24 _ rfl (.pointer (some ⟨w.heap.size, 0, none⟩)) (.agg (pw m)) rfl (ld_pw (by exact H1.out.2)) ?_)
    refine (HI.out _).mono ?_
    rintro e w2 ⟨rfl, hb2⟩
    have H2 := Lib.hid (H1.out.1.trans (hb2.mono H1.out.1.size))
    clear hb2 H1
    go_wp2_with fail
    refine (flives_any _).mono ?_
    rintro e w9 ⟨rfl, hb9⟩
    have H9 := Lib.hid (H2.out.trans (hb9.mono H2.out.size))
    clear hb9 H2
    go_wp2_with fail
    go_ret
    exact ⟨rfl, H9.out⟩
  · have h1 : 1 < m := by omega
    have h0 : 0 < m := by omega
    have ho : m % 2 = 1 := by omega
    have HN := Lib.hid (fun wx => fnew_some m hm ho h1 wx)
    have HI := Lib.hid (fun wx => ris_any m hm wx)
    rw [decide_eq_true (show m % 2 = 1 ∧ m ≠ 1 by omega)] at HI
    have ha := HAB.out.1
    have hb := HAB.out.2
    have hA1 : a % m < m := Nat.mod_lt _ h0
    have hB1 : b % m < m := Nat.mod_lt _ h0
    obtain ⟨one, hone⟩ : ∃ one, a % m = one := ⟨_, rfl⟩
    obtain ⟨two, htwo⟩ : ∃ two, b % m = two := ⟨_, rfl⟩
    obtain ⟨s, hs⟩ : ∃ s, (a + b) % m = s := ⟨_, rfl⟩
    obtain ⟨p, hp⟩ : ∃ p, a * b % m = p := ⟨_, rfl⟩
    obtain ⟨g, hg⟩ : ∃ g, (0 % m + (m - one)) % m = g := ⟨_, rfl⟩
    obtain ⟨d, hd⟩ : ∃ d, (one + (m - two)) % m = d := ⟨_, rfl⟩
    rw [hone] at hA1
    rw [htwo] at hB1
    have lt : ∀ x, x % m < 115792089237316195423570985008687907853269984665640564039457584007913129639936 := fun x => Nat.lt_trans (Nat.mod_lt _ h0) hm
    have hol : one < 115792089237316195423570985008687907853269984665640564039457584007913129639936 := Nat.lt_trans hA1 hm
    have hsl : s < 115792089237316195423570985008687907853269984665640564039457584007913129639936 := hs ▸ lt _
    have hpl : p < 115792089237316195423570985008687907853269984665640564039457584007913129639936 := hp ▸ lt _
    have hgl : g < 115792089237316195423570985008687907853269984665640564039457584007913129639936 := hg ▸ lt _
    have hdl : d < 115792089237316195423570985008687907853269984665640564039457584007913129639936 := hd ▸ lt _
    have z0 : (#[.int .u64 0, .int .u64 0, .int .u64 0, .int .u64 0] : Array Value) = pw 0 := by kernel_rfl
    have HAM := Lib.hid (fun wx => ramod_pw a 0 m ha (by omega) h0 hm wx)
    have HBM := Lib.hid (fun wx => ramod_pw b 0 m hb (by omega) h0 hm wx)
    rw [Nat.add_zero, hone, ← z0] at HAM
    rw [Nat.add_zero, htwo, ← z0] at HBM
    have HSM := Lib.hid (fun wx => ramod_pw a b m ha hb h0 hm wx)
    rw [hs] at HSM
    have HPM := Lib.hid (fun wx => rmmod_pw a b m ha hb h0 hm wx)
    rw [hp] at HPM
    have HNW := Lib.hid (show ∀ wx, Calls Try.prog 18 #[.agg (pw m)] wx fun e w' => ∃ v, e = .returned v ∧ RMade m v w' ∧ Below wx.heap.size wx w' from fun wx => (rnew_any m hm ho h1 wx).mono fun e w' ⟨v, e1, ⟨G, e2, _, lo, _, _, e3⟩, e4⟩ => ⟨v, e1, ⟨G, e2, lo, e3⟩, e4⟩)
    have HGS := Lib.hid (fun G lo wx (hf : RFat wx G m lo (115792089237316195423570985008687907853269984665640564039457584007913129639936 * 115792089237316195423570985008687907853269984665640564039457584007913129639936 % m)) => rsub_any G m lo (115792089237316195423570985008687907853269984665640564039457584007913129639936 * 115792089237316195423570985008687907853269984665640564039457584007913129639936 % m) 0 one h0 hA1 hm wx hf)
    rw [show (0 + (m - one)) % m = g from by rw [← hg, Nat.zero_mod], ← z0] at HGS
    have HDS := Lib.hid (fun G lo wx (hf : RFat wx G m lo (115792089237316195423570985008687907853269984665640564039457584007913129639936 * 115792089237316195423570985008687907853269984665640564039457584007913129639936 % m)) => rsub_any G m lo (115792089237316195423570985008687907853269984665640564039457584007913129639936 * 115792089237316195423570985008687907853269984665640564039457584007913129639936 % m) one two hA1 hB1 hm wx hf)
    rw [hd] at HDS
    have HEO := Lib.hid (fun wx => (eqw_run one one hol hol wx).trans (by rw [decide_eq_true rfl]))
    have HES := Lib.hid (fun wx => (eqw_run s s hsl hsl wx).trans (by rw [decide_eq_true rfl]))
    have HEP := Lib.hid (fun wx => (eqw_run p p hpl hpl wx).trans (by rw [decide_eq_true rfl]))
    have HEG := Lib.hid (fun wx => (eqw_run g g hgl hgl wx).trans (by rw [decide_eq_true rfl]))
    have HED := Lib.hid (fun wx => (eqw_run d d hdl hdl wx).trans (by rw [decide_eq_true rfl]))
    have HEM := Lib.hid (show ∀ wx, (binOp BinOp.neq 24 (.agg (pw m)) (.agg (pw m))).run Try.prog wx = .ok (.bool false) wx from fun wx => by simpa using new_run m m hm hm wx)
    have HK := Lib.hid (And.intro hone (And.intro htwo (And.intro hs (And.intro hp (And.intro hg hd)))))
    clear hm hex h1 h0 ho HM ha hb hA1 hB1 hone htwo hs hp hg hd lt hol hsl hpl hgl hdl z0
    have H0 := Lib.hid (HA.out _ rfl)
    clear HA
    go_enter Try.func3, Try.ntmps3
    go_wp2_with (refine wpList_ld rfl 24 _ rfl (.pointer (some ⟨w.heap.size, 0, none⟩)) (.agg (pw m)) rfl (ld_pw (by exact H0.out.2.1)) ?_)
    refine (HN.out _).mono ?_
    rintro e w1 ⟨F, rfl, hfd, -, hb1⟩
    have H1 := Lib.hid (show CRk w F m [(w.heap.size + 1 + 1, pw b), (w.heap.size + 1, pw a), (w.heap.size, pw m)] w1 from ⟨H0.out.1.trans (hb1.mono H0.out.1.size), hfd, fun r hr => by
      simp only [List.mem_cons, List.not_mem_nil, or_false] at hr
      rcases hr with rfl | rfl | rfl
      · exact (hb1.block _ (Array.getElem?_eq_some_iff.1 H0.out.2.2.2).1).trans H0.out.2.2.2
      · exact (hb1.block _ (Array.getElem?_eq_some_iff.1 H0.out.2.2.1).1).trans H0.out.2.2.1
      · exact (hb1.block _ (Array.getElem?_eq_some_iff.1 H0.out.2.1).1).trans H0.out.2.1⟩)
    clear hfd hb1 H0 HN
    have HOF := Lib.hid (fun wx (hf : FldAt wx F m) => fof_any F m a HAB.out.1 wx hf)
    have HAD := Lib.hid (fun wx (hf : FldAt wx F m) => fadd_any F m a b HAB.out.1 HAB.out.2 wx hf)
    have HMU := Lib.hid (fun wx (hf : FldAt wx F m) => fmul_any F m a b HAB.out.1 HAB.out.2 wx hf)
    have HNG := Lib.hid (fun wx (hf : FldAt wx F m) => fneg_any F m a HAB.out.1 wx hf)
    have HSU := Lib.hid (fun wx (hf : FldAt wx F m) => fsub_any F m a b HAB.out.1 HAB.out.2 wx hf)
    have HMD := Lib.hid (fun wx (hf : FldAt wx F m) => fmodulus_any F m wx hf)
    rw [HK.out.1] at HOF
    rw [HK.out.2.2.1] at HAD
    rw [HK.out.2.2.2.1] at HMU
    rw [HK.out.1, HK.out.2.2.2.2.1] at HNG
    rw [HK.out.1, HK.out.2.1, HK.out.2.2.2.2.2] at HSU
    clear HK HAB
    go_wp2_with (refine wpList_ld rfl 24 _ rfl (.pointer (some ⟨w.heap.size, 0, none⟩)) (.agg (pw m)) rfl (ld_pw (by exact H1.out.is _ _ (by simp))) ?_)
    refine (HI.out _).mono ?_
    rintro e w2 ⟨rfl, hb2⟩
    have H2 := Lib.hid (H1.out.below hb2)
    clear hb2 H1 HI
    go_wp2_with fail
    refine wp_region_quiet (C := CRk w F m [(w.heap.size + 1 + 1, pw b), (w.heap.size + 1, pw a), (w.heap.size, pw m)]) (by kernel_rfl) (by kernel_rfl) (H2.out.drew) ?_
    simp only
    with_reducible refine q_val (.pointer (some ⟨F, 0, none⟩)) (by kernel_rfl) (fun _ _ => by kernel_rfl) ?_
    with_reducible refine q_bin .eql 25 _ _ 25 (.pointer (some ⟨F, 0, none⟩)) (.pointer none) (.bool false) rfl (by kernel_rfl) (by kernel_rfl) (by kernel_rfl) (fun _ => by kernel_rfl) (fun w' => by kernel_rfl) ?_
    with_reducible refine q_val (.bool false) (by kernel_rfl) (fun _ _ => by kernel_rfl) ?_
    with_reducible refine q_val (.int .i64 0) (by kernel_rfl) (fun _ _ => by kernel_rfl) ?_
    with_reducible refine q_bin .neq 26 _ _ 26 (.int .i64 0) (.int .i64 0) (.bool false) rfl (by kernel_rfl) (by kernel_rfl) (by kernel_rfl) (fun _ => by kernel_rfl) (fun w' => by kernel_rfl) ?_
    with_reducible refine q_val (.bool false) (by kernel_rfl) (fun _ _ => by kernel_rfl) ?_
    with_reducible refine q_val (.bool false) (by kernel_rfl) (fun _ _ => by kernel_rfl) ?_
    with_reducible refine q_val (.pointer (some ⟨F, 0, none⟩)) (by kernel_rfl) (fun _ _ => by kernel_rfl) ?_
    with_reducible refine q_call 11 #[.pointer (some ⟨F, 0, none⟩)] (.agg (pw m)) (by kernel_rfl) (fun _ => by kernel_rfl) (CRk.calls HMD.out) ?_
    with_reducible refine q_load 24 (.tmp 3) (.pointer (some ⟨w.heap.size, 0, none⟩)) (.agg (pw m)) rfl (by kernel_rfl) (by kernel_rfl) (fun _ c => ld_pw (c.is _ _ (by simp))) ?_
    with_reducible refine q_bin .neq 24 _ _ 24 (.agg (pw m)) (.agg (pw m)) (.bool false) rfl (by kernel_rfl) (by kernel_rfl) (by kernel_rfl) (fun _ => by kernel_rfl) (fun w' => HEM.out w') ?_
    with_reducible refine q_val (.bool false) (by kernel_rfl) (fun _ _ => by kernel_rfl) ?_
    with_reducible refine wpQuiet_nil ?_
    intro wx hC
    have HC := Lib.hid hC
    clear hC H2
    simp only [Act.put, List.setIfInBounds_toArray, List.set_cons_succ, List.set_cons_zero]
    go_wp2_with (first | (refine wpList_ld rfl 24 _ rfl (.pointer (some ⟨w.heap.size + 1, 0, none⟩)) (.agg (pw a)) rfl (ld_pw (by exact HC.out.is _ _ (by simp))) ?_) | (refine wpList_ld rfl 24 _ rfl (.pointer (some ⟨w.heap.size, 0, none⟩)) (.agg (pw m)) rfl (ld_pw (by exact HC.out.is _ _ (by simp))) ?_))
    refine (HAM.out _).mono ?_
    rintro e w3 ⟨rfl, hb3⟩
    have H5 := Lib.hid ((HC.out.below hb3).lay (pw one))
    have G5 := Lib.hid (heap_alloc_new w3 (.cells (#[.int .u64 0, .int .u64 0, .int .u64 0, .int .u64 0]) 24))
    clear hb3 HC HAM
    go_upto_region 7 with (refine wpList_store_row rfl 24 _ _ rfl w3.heap.size (pw one) rfl rfl 24 (#[.int .u64 0, .int .u64 0, .int .u64 0, .int .u64 0]) (by exact G5.out) (by rw [pw_size]; exact infoW4) (by rw [pw_size]; rfl) (pw_one _) ?_)
    obtain ⟨w4, hw4⟩ : ∃ w4, (w3.alloc (.cells (#[.int .u64 0, .int .u64 0, .int .u64 0, .int .u64 0]) 24)).setRow w3.heap.size (pw one) = w4 := ⟨_, rfl⟩
    obtain ⟨g9, hg9⟩ : ∃ g9, w3.heap.size = g9 := ⟨_, rfl⟩
    rw [hw4, hg9] at H5
    rw [hw4, hg9]
    clear hw4 hg9 G5
    go_wp2_with (first | (refine wpList_ld rfl 24 _ rfl (.pointer (some ⟨w.heap.size + 1 + 1, 0, none⟩)) (.agg (pw b)) rfl (ld_pw (by exact H5.out.is _ _ (by simp))) ?_) | (refine wpList_ld rfl 24 _ rfl (.pointer (some ⟨w.heap.size, 0, none⟩)) (.agg (pw m)) rfl (ld_pw (by exact H5.out.is _ _ (by simp))) ?_))
    refine (HBM.out _).mono ?_
    rintro e w5 ⟨rfl, hb5⟩
    have H6 := Lib.hid ((H5.out.below hb5).lay (pw two))
    have G6 := Lib.hid (heap_alloc_new w5 (.cells (#[.int .u64 0, .int .u64 0, .int .u64 0, .int .u64 0]) 24))
    clear hb5 H5 HBM
    go_upto_region 8 with (refine wpList_store_row rfl 24 _ _ rfl w5.heap.size (pw two) rfl rfl 24 (#[.int .u64 0, .int .u64 0, .int .u64 0, .int .u64 0]) (by exact G6.out) (by rw [pw_size]; exact infoW4) (by rw [pw_size]; rfl) (pw_one _) ?_)
    obtain ⟨w6, hw6⟩ : ∃ w6, (w5.alloc (.cells (#[.int .u64 0, .int .u64 0, .int .u64 0, .int .u64 0]) 24)).setRow w5.heap.size (pw two) = w6 := ⟨_, rfl⟩
    obtain ⟨g10, hg10⟩ : ∃ g10, w5.heap.size = g10 := ⟨_, rfl⟩
    rw [hw6, hg10] at H6
    rw [hw6, hg10]
    clear hw6 hg10 G6
    refine region_many [.val 48 ((.pointer (some ⟨F, 0, none⟩))), .val 49 ((.agg (pw a))), .val 50 ((.agg (pw one))), .val 51 ((.agg (pw one))), .val 52 ((.bool true)), .val 53 ((.bool true)), .val 54 ((.pointer (some ⟨F, 0, none⟩))), .val 55 ((.agg (pw a))), .val 56 ((.agg (pw b))), .val 57 ((.agg (pw s))), .val 58 ((.agg (pw a))), .val 59 ((.agg (pw b))), .val 60 ((.agg (pw m))), .val 61 ((.agg (pw s))), .val 62 ((.bool true)), .val 63 ((.bool true)), .val 64 ((.bool true)), .val 65 ((.pointer (some ⟨F, 0, none⟩))), .val 66 ((.agg (pw a))), .val 67 ((.agg (pw b))), .val 68 ((.agg (pw p))), .val 69 ((.agg (pw a))), .val 70 ((.agg (pw b))), .val 71 ((.agg (pw m))), .val 72 ((.agg (pw p))), .val 73 ((.bool true)), .val 74 ((.bool true)), .val 75 ((.bool true)), .val 76 ((.pointer (some ⟨F, 0, none⟩))), .val 77 ((.agg (pw a))), .val 78 ((.agg (pw g))), .val 79 ((.agg (pw m))), .own 80 (fun v wx => RMade m v wx), .val 81 ((.agg #[.int .u64 0, .int .u64 0, .int .u64 0, .int .u64 0])), .val 82 ((.agg (pw one))), .val 83 ((.agg (pw g))), .val 84 ((.bool true)), .val 85 ((.bool true)), .val 86 ((.bool true)), .val 87 ((.pointer (some ⟨F, 0, none⟩))), .val 88 ((.agg (pw a))), .val 89 ((.agg (pw b))), .val 90 ((.agg (pw d))), .val 91 ((.agg (pw m))), .own 92 (fun v wx => RMade m v wx), .val 93 ((.agg (pw one))), .val 94 ((.agg (pw two))), .val 95 ((.agg (pw d))), .val 96 ((.bool true)), .val 97 ((.bool true)), .val 98 ((.bool true)), .val 99 ((.bool true)), .val 100 ((.bool true)), .val 6 ((.bool true))] [] (fun p => #[]) (fun i => i) (by kernel_rfl) (by kernel_rfl) (by exact ⟨trivial, trivial, trivial, trivial, trivial, trivial, trivial, trivial, trivial, trivial, trivial, trivial, trivial, trivial, trivial, trivial, trivial, trivial, trivial, trivial, trivial, trivial, trivial, trivial, trivial, trivial, trivial, trivial, trivial, trivial, trivial, trivial, ⟨rfl, fun v wa wb hb ⟨G, h, lo, hr⟩ => ⟨G, h, lo, hr.below hb⟩⟩, trivial, trivial, trivial, trivial, trivial, trivial, trivial, trivial, trivial, trivial, trivial, ⟨rfl, fun v wa wb hb ⟨G, h, lo, hr⟩ => ⟨G, h, lo, hr.below hb⟩⟩, trivial, trivial, trivial, trivial, trivial, trivial, trivial, trivial, trivial, trivial⟩) (fun p hp => by cases hp) ?_ ?_
    · refine ⟨?_, ?_, ?_, ?_, ?_, ?_, ?_, ?_, ?_, ?_, ?_, ?_, ?_, ?_, ?_, ?_, ?_, ?_, ?_, ?_, ?_, ?_, ?_, ?_, ?_, ?_, ?_, ?_, ?_, ?_, ?_, ?_, ?_, ?_, ?_, ?_, ?_, ?_, ?_, ?_, ?_, ?_, ?_, ?_, ?_, ?_, ?_, ?_, ?_, ?_, ?_, ?_, ?_, ?_, trivial⟩
      · intro ac wx hC hsz hK
        have h0 : ac.tmps.getD 7 undef = (.pointer (some ⟨F, 0, none⟩)) := hK.1 7 (by kernel_rfl)
        exact mm_val ((.pointer (some ⟨F, 0, none⟩))) rfl (by kernel_rfl) (by rw [← h0]; kernel_rfl) hC (by kernel_rfl) (by rw [hsz]; exact of_decide_eq_true (by kernel_rfl)) rfl
      · intro ac wx hC hsz hK
        have h0 : ac.tmps.getD 4 undef = (.pointer (some ⟨w.heap.size + 1, 0, none⟩)) := hK.1 4 (by kernel_rfl)
        exact mm_load 24 (.tmp 4) ((.pointer (some ⟨w.heap.size + 1, 0, none⟩))) ((.agg (pw a))) rfl rfl (by kernel_rfl) h0 (ld_pw ((H6.out.below hC.1).is _ _ (by simp))) hC (by kernel_rfl) (by rw [hsz]; exact of_decide_eq_true (by kernel_rfl)) rfl
      · intro ac wx hC hsz hK
        have h0 : ac.tmps.getD 48 undef = (.pointer (some ⟨F, 0, none⟩)) := hK.2 ⟨0, .data⟩ (by simp) rfl _ rfl
        have h1 : ac.tmps.getD 49 undef = (.agg (pw a)) := hK.2 ⟨1, .data⟩ (by simp) rfl _ rfl
        refine mm_call 13 #[ac.tmps.getD 48 undef, ac.tmps.getD 49 undef] ((.agg (pw one))) rfl (by kernel_rfl) (by kernel_rfl) ?_ hC (by kernel_rfl) (by rw [hsz]; exact of_decide_eq_true (by kernel_rfl)) rfl
        rw [h0, h1]
        exact HOF.out wx (H6.out.below hC.1).fld
      · intro ac wx hC hsz hK
        have h0 : ac.tmps.getD 9 undef = (.pointer (some ⟨g9, 0, none⟩)) := hK.1 9 (by kernel_rfl)
        exact mm_load 24 (.tmp 9) ((.pointer (some ⟨g9, 0, none⟩))) ((.agg (pw one))) rfl rfl (by kernel_rfl) h0 (ld_pw ((H6.out.below hC.1).is _ _ (by simp))) hC (by kernel_rfl) (by rw [hsz]; exact of_decide_eq_true (by kernel_rfl)) rfl
      · intro ac wx hC hsz hK
        have h0 : ac.tmps.getD 50 undef = (.agg (pw one)) := hK.2 ⟨2, .data⟩ (by simp) rfl _ rfl
        have h1 : ac.tmps.getD 51 undef = (.agg (pw one)) := hK.2 ⟨3, .data⟩ (by simp) rfl _ rfl
        exact mm_bin .eql 24 (.tmp 50) (.tmp 51) 24 ((.agg (pw one))) ((.agg (pw one))) ((.bool true)) rfl rfl (by kernel_rfl) h0 h1 (by kernel_rfl) (HEO.out wx) hC (by kernel_rfl) (by rw [hsz]; exact of_decide_eq_true (by kernel_rfl)) rfl
      · intro ac wx hC hsz hK
        have h0 : ac.tmps.getD 52 undef = (.bool true) := hK.2 ⟨4, .data⟩ (by simp) rfl _ rfl
        exact mm_val ((.bool true)) rfl (by kernel_rfl) (by rw [← h0]; kernel_rfl) hC (by kernel_rfl) (by rw [hsz]; exact of_decide_eq_true (by kernel_rfl)) rfl
      · intro ac wx hC hsz hK
        have hg : ac.tmps.getD 53 undef = (.bool true) := hK.2 ⟨5, .guard⟩ (by simp) rfl _ rfl
        have h0 : ac.tmps.getD 7 undef = (.pointer (some ⟨F, 0, none⟩)) := hK.1 7 (by kernel_rfl)
        exact mm_val ((.pointer (some ⟨F, 0, none⟩))) rfl (wanted_of (d := 53) rfl (by kernel_rfl) hg) (by rw [← h0]; kernel_rfl) hC (by kernel_rfl) (by rw [hsz]; exact of_decide_eq_true (by kernel_rfl)) rfl
      · intro ac wx hC hsz hK
        have hg : ac.tmps.getD 53 undef = (.bool true) := hK.2 ⟨5, .guard⟩ (by simp) rfl _ rfl
        have h0 : ac.tmps.getD 4 undef = (.pointer (some ⟨w.heap.size + 1, 0, none⟩)) := hK.1 4 (by kernel_rfl)
        exact mm_load 24 (.tmp 4) ((.pointer (some ⟨w.heap.size + 1, 0, none⟩))) ((.agg (pw a))) rfl rfl (wanted_of (d := 53) rfl (by kernel_rfl) hg) h0 (ld_pw ((H6.out.below hC.1).is _ _ (by simp))) hC (by kernel_rfl) (by rw [hsz]; exact of_decide_eq_true (by kernel_rfl)) rfl
      · intro ac wx hC hsz hK
        have hg : ac.tmps.getD 53 undef = (.bool true) := hK.2 ⟨5, .guard⟩ (by simp) rfl _ rfl
        have h0 : ac.tmps.getD 5 undef = (.pointer (some ⟨w.heap.size + 1 + 1, 0, none⟩)) := hK.1 5 (by kernel_rfl)
        exact mm_load 24 (.tmp 5) ((.pointer (some ⟨w.heap.size + 1 + 1, 0, none⟩))) ((.agg (pw b))) rfl rfl (wanted_of (d := 53) rfl (by kernel_rfl) hg) h0 (ld_pw ((H6.out.below hC.1).is _ _ (by simp))) hC (by kernel_rfl) (by rw [hsz]; exact of_decide_eq_true (by kernel_rfl)) rfl
      · intro ac wx hC hsz hK
        have hg : ac.tmps.getD 53 undef = (.bool true) := hK.2 ⟨5, .guard⟩ (by simp) rfl _ rfl
        have h0 : ac.tmps.getD 54 undef = (.pointer (some ⟨F, 0, none⟩)) := hK.2 ⟨6, .data⟩ (by simp) rfl _ rfl
        have h1 : ac.tmps.getD 55 undef = (.agg (pw a)) := hK.2 ⟨7, .data⟩ (by simp) rfl _ rfl
        have h2 : ac.tmps.getD 56 undef = (.agg (pw b)) := hK.2 ⟨8, .data⟩ (by simp) rfl _ rfl
        refine mm_call 14 #[ac.tmps.getD 54 undef, ac.tmps.getD 55 undef, ac.tmps.getD 56 undef] ((.agg (pw s))) rfl (wanted_of (d := 53) rfl (by kernel_rfl) hg) (by kernel_rfl) ?_ hC (by kernel_rfl) (by rw [hsz]; exact of_decide_eq_true (by kernel_rfl)) rfl
        rw [h0, h1, h2]
        exact HAD.out wx (H6.out.below hC.1).fld
      · intro ac wx hC hsz hK
        have hg : ac.tmps.getD 53 undef = (.bool true) := hK.2 ⟨5, .guard⟩ (by simp) rfl _ rfl
        have h0 : ac.tmps.getD 4 undef = (.pointer (some ⟨w.heap.size + 1, 0, none⟩)) := hK.1 4 (by kernel_rfl)
        exact mm_load 24 (.tmp 4) ((.pointer (some ⟨w.heap.size + 1, 0, none⟩))) ((.agg (pw a))) rfl rfl (wanted_of (d := 53) rfl (by kernel_rfl) hg) h0 (ld_pw ((H6.out.below hC.1).is _ _ (by simp))) hC (by kernel_rfl) (by rw [hsz]; exact of_decide_eq_true (by kernel_rfl)) rfl
      · intro ac wx hC hsz hK
        have hg : ac.tmps.getD 53 undef = (.bool true) := hK.2 ⟨5, .guard⟩ (by simp) rfl _ rfl
        have h0 : ac.tmps.getD 5 undef = (.pointer (some ⟨w.heap.size + 1 + 1, 0, none⟩)) := hK.1 5 (by kernel_rfl)
        exact mm_load 24 (.tmp 5) ((.pointer (some ⟨w.heap.size + 1 + 1, 0, none⟩))) ((.agg (pw b))) rfl rfl (wanted_of (d := 53) rfl (by kernel_rfl) hg) h0 (ld_pw ((H6.out.below hC.1).is _ _ (by simp))) hC (by kernel_rfl) (by rw [hsz]; exact of_decide_eq_true (by kernel_rfl)) rfl
      · intro ac wx hC hsz hK
        have hg : ac.tmps.getD 53 undef = (.bool true) := hK.2 ⟨5, .guard⟩ (by simp) rfl _ rfl
        have h0 : ac.tmps.getD 3 undef = (.pointer (some ⟨w.heap.size, 0, none⟩)) := hK.1 3 (by kernel_rfl)
        exact mm_load 24 (.tmp 3) ((.pointer (some ⟨w.heap.size, 0, none⟩))) ((.agg (pw m))) rfl rfl (wanted_of (d := 53) rfl (by kernel_rfl) hg) h0 (ld_pw ((H6.out.below hC.1).is _ _ (by simp))) hC (by kernel_rfl) (by rw [hsz]; exact of_decide_eq_true (by kernel_rfl)) rfl
      · intro ac wx hC hsz hK
        have hg : ac.tmps.getD 53 undef = (.bool true) := hK.2 ⟨5, .guard⟩ (by simp) rfl _ rfl
        have h0 : ac.tmps.getD 58 undef = (.agg (pw a)) := hK.2 ⟨10, .data⟩ (by simp) rfl _ rfl
        have h1 : ac.tmps.getD 59 undef = (.agg (pw b)) := hK.2 ⟨11, .data⟩ (by simp) rfl _ rfl
        have h2 : ac.tmps.getD 60 undef = (.agg (pw m)) := hK.2 ⟨12, .data⟩ (by simp) rfl _ rfl
        refine mm_call 12 #[ac.tmps.getD 58 undef, ac.tmps.getD 59 undef, ac.tmps.getD 60 undef] ((.agg (pw s))) rfl (wanted_of (d := 53) rfl (by kernel_rfl) hg) (by kernel_rfl) ?_ hC (by kernel_rfl) (by rw [hsz]; exact of_decide_eq_true (by kernel_rfl)) rfl
        rw [h0, h1, h2]
        exact HSM.out wx
      · intro ac wx hC hsz hK
        have hg : ac.tmps.getD 53 undef = (.bool true) := hK.2 ⟨5, .guard⟩ (by simp) rfl _ rfl
        have h0 : ac.tmps.getD 57 undef = (.agg (pw s)) := hK.2 ⟨9, .data⟩ (by simp) rfl _ rfl
        have h1 : ac.tmps.getD 61 undef = (.agg (pw s)) := hK.2 ⟨13, .data⟩ (by simp) rfl _ rfl
        exact mm_bin .eql 24 (.tmp 57) (.tmp 61) 24 ((.agg (pw s))) ((.agg (pw s))) ((.bool true)) rfl rfl (wanted_of (d := 53) rfl (by kernel_rfl) hg) h0 h1 (by kernel_rfl) (HES.out wx) hC (by kernel_rfl) (by rw [hsz]; exact of_decide_eq_true (by kernel_rfl)) rfl
      · intro ac wx hC hsz hK
        have h0 : ac.tmps.getD 53 undef = (.bool true) := hK.2 ⟨5, .data⟩ (by simp) rfl _ rfl
        have h1 : ac.tmps.getD 62 undef = (.bool true) := hK.2 ⟨14, .data⟩ (by simp) rfl _ rfl
        exact mm_val ((.bool true)) rfl (by kernel_rfl) (run_pick (.tmp 53) (.tmp 62) (.const (.bool false)) true ((.bool true)) rfl h0 (h1)) hC (by kernel_rfl) (by rw [hsz]; exact of_decide_eq_true (by kernel_rfl)) rfl
      · intro ac wx hC hsz hK
        have h0 : ac.tmps.getD 63 undef = (.bool true) := hK.2 ⟨15, .data⟩ (by simp) rfl _ rfl
        exact mm_val ((.bool true)) rfl (by kernel_rfl) (by rw [← h0]; kernel_rfl) hC (by kernel_rfl) (by rw [hsz]; exact of_decide_eq_true (by kernel_rfl)) rfl
      · intro ac wx hC hsz hK
        have hg : ac.tmps.getD 64 undef = (.bool true) := hK.2 ⟨16, .guard⟩ (by simp) rfl _ rfl
        have h0 : ac.tmps.getD 7 undef = (.pointer (some ⟨F, 0, none⟩)) := hK.1 7 (by kernel_rfl)
        exact mm_val ((.pointer (some ⟨F, 0, none⟩))) rfl (wanted_of (d := 64) rfl (by kernel_rfl) hg) (by rw [← h0]; kernel_rfl) hC (by kernel_rfl) (by rw [hsz]; exact of_decide_eq_true (by kernel_rfl)) rfl
      · intro ac wx hC hsz hK
        have hg : ac.tmps.getD 64 undef = (.bool true) := hK.2 ⟨16, .guard⟩ (by simp) rfl _ rfl
        have h0 : ac.tmps.getD 4 undef = (.pointer (some ⟨w.heap.size + 1, 0, none⟩)) := hK.1 4 (by kernel_rfl)
        exact mm_load 24 (.tmp 4) ((.pointer (some ⟨w.heap.size + 1, 0, none⟩))) ((.agg (pw a))) rfl rfl (wanted_of (d := 64) rfl (by kernel_rfl) hg) h0 (ld_pw ((H6.out.below hC.1).is _ _ (by simp))) hC (by kernel_rfl) (by rw [hsz]; exact of_decide_eq_true (by kernel_rfl)) rfl
      · intro ac wx hC hsz hK
        have hg : ac.tmps.getD 64 undef = (.bool true) := hK.2 ⟨16, .guard⟩ (by simp) rfl _ rfl
        have h0 : ac.tmps.getD 5 undef = (.pointer (some ⟨w.heap.size + 1 + 1, 0, none⟩)) := hK.1 5 (by kernel_rfl)
        exact mm_load 24 (.tmp 5) ((.pointer (some ⟨w.heap.size + 1 + 1, 0, none⟩))) ((.agg (pw b))) rfl rfl (wanted_of (d := 64) rfl (by kernel_rfl) hg) h0 (ld_pw ((H6.out.below hC.1).is _ _ (by simp))) hC (by kernel_rfl) (by rw [hsz]; exact of_decide_eq_true (by kernel_rfl)) rfl
      · intro ac wx hC hsz hK
        have hg : ac.tmps.getD 64 undef = (.bool true) := hK.2 ⟨16, .guard⟩ (by simp) rfl _ rfl
        have h0 : ac.tmps.getD 65 undef = (.pointer (some ⟨F, 0, none⟩)) := hK.2 ⟨17, .data⟩ (by simp) rfl _ rfl
        have h1 : ac.tmps.getD 66 undef = (.agg (pw a)) := hK.2 ⟨18, .data⟩ (by simp) rfl _ rfl
        have h2 : ac.tmps.getD 67 undef = (.agg (pw b)) := hK.2 ⟨19, .data⟩ (by simp) rfl _ rfl
        refine mm_call 15 #[ac.tmps.getD 65 undef, ac.tmps.getD 66 undef, ac.tmps.getD 67 undef] ((.agg (pw p))) rfl (wanted_of (d := 64) rfl (by kernel_rfl) hg) (by kernel_rfl) ?_ hC (by kernel_rfl) (by rw [hsz]; exact of_decide_eq_true (by kernel_rfl)) rfl
        rw [h0, h1, h2]
        exact HMU.out wx (H6.out.below hC.1).fld
      · intro ac wx hC hsz hK
        have hg : ac.tmps.getD 64 undef = (.bool true) := hK.2 ⟨16, .guard⟩ (by simp) rfl _ rfl
        have h0 : ac.tmps.getD 4 undef = (.pointer (some ⟨w.heap.size + 1, 0, none⟩)) := hK.1 4 (by kernel_rfl)
        exact mm_load 24 (.tmp 4) ((.pointer (some ⟨w.heap.size + 1, 0, none⟩))) ((.agg (pw a))) rfl rfl (wanted_of (d := 64) rfl (by kernel_rfl) hg) h0 (ld_pw ((H6.out.below hC.1).is _ _ (by simp))) hC (by kernel_rfl) (by rw [hsz]; exact of_decide_eq_true (by kernel_rfl)) rfl
      · intro ac wx hC hsz hK
        have hg : ac.tmps.getD 64 undef = (.bool true) := hK.2 ⟨16, .guard⟩ (by simp) rfl _ rfl
        have h0 : ac.tmps.getD 5 undef = (.pointer (some ⟨w.heap.size + 1 + 1, 0, none⟩)) := hK.1 5 (by kernel_rfl)
        exact mm_load 24 (.tmp 5) ((.pointer (some ⟨w.heap.size + 1 + 1, 0, none⟩))) ((.agg (pw b))) rfl rfl (wanted_of (d := 64) rfl (by kernel_rfl) hg) h0 (ld_pw ((H6.out.below hC.1).is _ _ (by simp))) hC (by kernel_rfl) (by rw [hsz]; exact of_decide_eq_true (by kernel_rfl)) rfl
      · intro ac wx hC hsz hK
        have hg : ac.tmps.getD 64 undef = (.bool true) := hK.2 ⟨16, .guard⟩ (by simp) rfl _ rfl
        have h0 : ac.tmps.getD 3 undef = (.pointer (some ⟨w.heap.size, 0, none⟩)) := hK.1 3 (by kernel_rfl)
        exact mm_load 24 (.tmp 3) ((.pointer (some ⟨w.heap.size, 0, none⟩))) ((.agg (pw m))) rfl rfl (wanted_of (d := 64) rfl (by kernel_rfl) hg) h0 (ld_pw ((H6.out.below hC.1).is _ _ (by simp))) hC (by kernel_rfl) (by rw [hsz]; exact of_decide_eq_true (by kernel_rfl)) rfl
      · intro ac wx hC hsz hK
        have hg : ac.tmps.getD 64 undef = (.bool true) := hK.2 ⟨16, .guard⟩ (by simp) rfl _ rfl
        have h0 : ac.tmps.getD 69 undef = (.agg (pw a)) := hK.2 ⟨21, .data⟩ (by simp) rfl _ rfl
        have h1 : ac.tmps.getD 70 undef = (.agg (pw b)) := hK.2 ⟨22, .data⟩ (by simp) rfl _ rfl
        have h2 : ac.tmps.getD 71 undef = (.agg (pw m)) := hK.2 ⟨23, .data⟩ (by simp) rfl _ rfl
        refine mm_call 16 #[ac.tmps.getD 69 undef, ac.tmps.getD 70 undef, ac.tmps.getD 71 undef] ((.agg (pw p))) rfl (wanted_of (d := 64) rfl (by kernel_rfl) hg) (by kernel_rfl) ?_ hC (by kernel_rfl) (by rw [hsz]; exact of_decide_eq_true (by kernel_rfl)) rfl
        rw [h0, h1, h2]
        exact HPM.out wx
      · intro ac wx hC hsz hK
        have hg : ac.tmps.getD 64 undef = (.bool true) := hK.2 ⟨16, .guard⟩ (by simp) rfl _ rfl
        have h0 : ac.tmps.getD 68 undef = (.agg (pw p)) := hK.2 ⟨20, .data⟩ (by simp) rfl _ rfl
        have h1 : ac.tmps.getD 72 undef = (.agg (pw p)) := hK.2 ⟨24, .data⟩ (by simp) rfl _ rfl
        exact mm_bin .eql 24 (.tmp 68) (.tmp 72) 24 ((.agg (pw p))) ((.agg (pw p))) ((.bool true)) rfl rfl (wanted_of (d := 64) rfl (by kernel_rfl) hg) h0 h1 (by kernel_rfl) (HEP.out wx) hC (by kernel_rfl) (by rw [hsz]; exact of_decide_eq_true (by kernel_rfl)) rfl
      · intro ac wx hC hsz hK
        have h0 : ac.tmps.getD 64 undef = (.bool true) := hK.2 ⟨16, .data⟩ (by simp) rfl _ rfl
        have h1 : ac.tmps.getD 73 undef = (.bool true) := hK.2 ⟨25, .data⟩ (by simp) rfl _ rfl
        exact mm_val ((.bool true)) rfl (by kernel_rfl) (run_pick (.tmp 64) (.tmp 73) (.const (.bool false)) true ((.bool true)) rfl h0 (h1)) hC (by kernel_rfl) (by rw [hsz]; exact of_decide_eq_true (by kernel_rfl)) rfl
      · intro ac wx hC hsz hK
        have h0 : ac.tmps.getD 74 undef = (.bool true) := hK.2 ⟨26, .data⟩ (by simp) rfl _ rfl
        exact mm_val ((.bool true)) rfl (by kernel_rfl) (by rw [← h0]; kernel_rfl) hC (by kernel_rfl) (by rw [hsz]; exact of_decide_eq_true (by kernel_rfl)) rfl
      · intro ac wx hC hsz hK
        have hg : ac.tmps.getD 75 undef = (.bool true) := hK.2 ⟨27, .guard⟩ (by simp) rfl _ rfl
        have h0 : ac.tmps.getD 7 undef = (.pointer (some ⟨F, 0, none⟩)) := hK.1 7 (by kernel_rfl)
        exact mm_val ((.pointer (some ⟨F, 0, none⟩))) rfl (wanted_of (d := 75) rfl (by kernel_rfl) hg) (by rw [← h0]; kernel_rfl) hC (by kernel_rfl) (by rw [hsz]; exact of_decide_eq_true (by kernel_rfl)) rfl
      · intro ac wx hC hsz hK
        have hg : ac.tmps.getD 75 undef = (.bool true) := hK.2 ⟨27, .guard⟩ (by simp) rfl _ rfl
        have h0 : ac.tmps.getD 4 undef = (.pointer (some ⟨w.heap.size + 1, 0, none⟩)) := hK.1 4 (by kernel_rfl)
        exact mm_load 24 (.tmp 4) ((.pointer (some ⟨w.heap.size + 1, 0, none⟩))) ((.agg (pw a))) rfl rfl (wanted_of (d := 75) rfl (by kernel_rfl) hg) h0 (ld_pw ((H6.out.below hC.1).is _ _ (by simp))) hC (by kernel_rfl) (by rw [hsz]; exact of_decide_eq_true (by kernel_rfl)) rfl
      · intro ac wx hC hsz hK
        have hg : ac.tmps.getD 75 undef = (.bool true) := hK.2 ⟨27, .guard⟩ (by simp) rfl _ rfl
        have h0 : ac.tmps.getD 76 undef = (.pointer (some ⟨F, 0, none⟩)) := hK.2 ⟨28, .data⟩ (by simp) rfl _ rfl
        have h1 : ac.tmps.getD 77 undef = (.agg (pw a)) := hK.2 ⟨29, .data⟩ (by simp) rfl _ rfl
        refine mm_call 17 #[ac.tmps.getD 76 undef, ac.tmps.getD 77 undef] ((.agg (pw g))) rfl (wanted_of (d := 75) rfl (by kernel_rfl) hg) (by kernel_rfl) ?_ hC (by kernel_rfl) (by rw [hsz]; exact of_decide_eq_true (by kernel_rfl)) rfl
        rw [h0, h1]
        exact HNG.out wx (H6.out.below hC.1).fld
      · intro ac wx hC hsz hK
        have hg : ac.tmps.getD 75 undef = (.bool true) := hK.2 ⟨27, .guard⟩ (by simp) rfl _ rfl
        have h0 : ac.tmps.getD 3 undef = (.pointer (some ⟨w.heap.size, 0, none⟩)) := hK.1 3 (by kernel_rfl)
        exact mm_load 24 (.tmp 3) ((.pointer (some ⟨w.heap.size, 0, none⟩))) ((.agg (pw m))) rfl rfl (wanted_of (d := 75) rfl (by kernel_rfl) hg) h0 (ld_pw ((H6.out.below hC.1).is _ _ (by simp))) hC (by kernel_rfl) (by rw [hsz]; exact of_decide_eq_true (by kernel_rfl)) rfl
      · intro ac wx hC hsz hK
        have hg : ac.tmps.getD 75 undef = (.bool true) := hK.2 ⟨27, .guard⟩ (by simp) rfl _ rfl
        have h0 : ac.tmps.getD 79 undef = (.agg (pw m)) := hK.2 ⟨31, .data⟩ (by simp) rfl _ rfl
        refine mm_callx 18 #[ac.tmps.getD 79 undef] (fun v wx => RMade m v wx) rfl (wanted_of (d := 75) rfl (by kernel_rfl) hg) (by kernel_rfl) ?_ hC (by kernel_rfl) (by rw [hsz]; exact of_decide_eq_true (by kernel_rfl)) rfl
        rw [h0]
        exact HNW.out wx
      · intro ac wx hC hsz hK
        have hg : ac.tmps.getD 75 undef = (.bool true) := hK.2 ⟨27, .guard⟩ (by simp) rfl _ rfl
        exact mm_val ((.agg #[.int .u64 0, .int .u64 0, .int .u64 0, .int .u64 0])) rfl (wanted_of (d := 75) rfl (by kernel_rfl) hg) (by kernel_rfl) hC (by kernel_rfl) (by rw [hsz]; exact of_decide_eq_true (by kernel_rfl)) rfl
      · intro ac wx hC hsz hK
        have hg : ac.tmps.getD 75 undef = (.bool true) := hK.2 ⟨27, .guard⟩ (by simp) rfl _ rfl
        have h0 : ac.tmps.getD 9 undef = (.pointer (some ⟨g9, 0, none⟩)) := hK.1 9 (by kernel_rfl)
        exact mm_load 24 (.tmp 9) ((.pointer (some ⟨g9, 0, none⟩))) ((.agg (pw one))) rfl rfl (wanted_of (d := 75) rfl (by kernel_rfl) hg) h0 (ld_pw ((H6.out.below hC.1).is _ _ (by simp))) hC (by kernel_rfl) (by rw [hsz]; exact of_decide_eq_true (by kernel_rfl)) rfl
      · intro ac wx hC hsz hK
        have hg : ac.tmps.getD 75 undef = (.bool true) := hK.2 ⟨27, .guard⟩ (by simp) rfl _ rfl
        obtain ⟨G0, h0, hG0⟩ := hK.2 ⟨32, .data⟩ (by simp) rfl _ rfl
        have h0 : ac.tmps.getD 80 undef = .pointer (some ⟨G0, 0, none⟩) := h0
        have h1 : ac.tmps.getD 81 undef = (.agg #[.int .u64 0, .int .u64 0, .int .u64 0, .int .u64 0]) := hK.2 ⟨33, .data⟩ (by simp) rfl _ rfl
        have h2 : ac.tmps.getD 82 undef = (.agg (pw one)) := hK.2 ⟨34, .data⟩ (by simp) rfl _ rfl
        refine mm_call 19 #[ac.tmps.getD 80 undef, ac.tmps.getD 81 undef, ac.tmps.getD 82 undef] ((.agg (pw g))) rfl (wanted_of (d := 75) rfl (by kernel_rfl) hg) (by kernel_rfl) ?_ hC (by kernel_rfl) (by rw [hsz]; exact of_decide_eq_true (by kernel_rfl)) rfl
        rw [h0, h1, h2]
        exact by obtain ⟨lo, hR⟩ := hG0; exact HGS.out G0 lo wx hR
      · intro ac wx hC hsz hK
        have hg : ac.tmps.getD 75 undef = (.bool true) := hK.2 ⟨27, .guard⟩ (by simp) rfl _ rfl
        have h0 : ac.tmps.getD 78 undef = (.agg (pw g)) := hK.2 ⟨30, .data⟩ (by simp) rfl _ rfl
        have h1 : ac.tmps.getD 83 undef = (.agg (pw g)) := hK.2 ⟨35, .data⟩ (by simp) rfl _ rfl
        exact mm_bin .eql 24 (.tmp 78) (.tmp 83) 24 ((.agg (pw g))) ((.agg (pw g))) ((.bool true)) rfl rfl (wanted_of (d := 75) rfl (by kernel_rfl) hg) h0 h1 (by kernel_rfl) (HEG.out wx) hC (by kernel_rfl) (by rw [hsz]; exact of_decide_eq_true (by kernel_rfl)) rfl
      · intro ac wx hC hsz hK
        have h0 : ac.tmps.getD 75 undef = (.bool true) := hK.2 ⟨27, .data⟩ (by simp) rfl _ rfl
        have h1 : ac.tmps.getD 84 undef = (.bool true) := hK.2 ⟨36, .data⟩ (by simp) rfl _ rfl
        exact mm_val ((.bool true)) rfl (by kernel_rfl) (run_pick (.tmp 75) (.tmp 84) (.const (.bool false)) true ((.bool true)) rfl h0 (h1)) hC (by kernel_rfl) (by rw [hsz]; exact of_decide_eq_true (by kernel_rfl)) rfl
      · intro ac wx hC hsz hK
        have h0 : ac.tmps.getD 85 undef = (.bool true) := hK.2 ⟨37, .data⟩ (by simp) rfl _ rfl
        exact mm_val ((.bool true)) rfl (by kernel_rfl) (by rw [← h0]; kernel_rfl) hC (by kernel_rfl) (by rw [hsz]; exact of_decide_eq_true (by kernel_rfl)) rfl
      · intro ac wx hC hsz hK
        have hg : ac.tmps.getD 86 undef = (.bool true) := hK.2 ⟨38, .guard⟩ (by simp) rfl _ rfl
        have h0 : ac.tmps.getD 7 undef = (.pointer (some ⟨F, 0, none⟩)) := hK.1 7 (by kernel_rfl)
        exact mm_val ((.pointer (some ⟨F, 0, none⟩))) rfl (wanted_of (d := 86) rfl (by kernel_rfl) hg) (by rw [← h0]; kernel_rfl) hC (by kernel_rfl) (by rw [hsz]; exact of_decide_eq_true (by kernel_rfl)) rfl
      · intro ac wx hC hsz hK
        have hg : ac.tmps.getD 86 undef = (.bool true) := hK.2 ⟨38, .guard⟩ (by simp) rfl _ rfl
        have h0 : ac.tmps.getD 4 undef = (.pointer (some ⟨w.heap.size + 1, 0, none⟩)) := hK.1 4 (by kernel_rfl)
        exact mm_load 24 (.tmp 4) ((.pointer (some ⟨w.heap.size + 1, 0, none⟩))) ((.agg (pw a))) rfl rfl (wanted_of (d := 86) rfl (by kernel_rfl) hg) h0 (ld_pw ((H6.out.below hC.1).is _ _ (by simp))) hC (by kernel_rfl) (by rw [hsz]; exact of_decide_eq_true (by kernel_rfl)) rfl
      · intro ac wx hC hsz hK
        have hg : ac.tmps.getD 86 undef = (.bool true) := hK.2 ⟨38, .guard⟩ (by simp) rfl _ rfl
        have h0 : ac.tmps.getD 5 undef = (.pointer (some ⟨w.heap.size + 1 + 1, 0, none⟩)) := hK.1 5 (by kernel_rfl)
        exact mm_load 24 (.tmp 5) ((.pointer (some ⟨w.heap.size + 1 + 1, 0, none⟩))) ((.agg (pw b))) rfl rfl (wanted_of (d := 86) rfl (by kernel_rfl) hg) h0 (ld_pw ((H6.out.below hC.1).is _ _ (by simp))) hC (by kernel_rfl) (by rw [hsz]; exact of_decide_eq_true (by kernel_rfl)) rfl
      · intro ac wx hC hsz hK
        have hg : ac.tmps.getD 86 undef = (.bool true) := hK.2 ⟨38, .guard⟩ (by simp) rfl _ rfl
        have h0 : ac.tmps.getD 87 undef = (.pointer (some ⟨F, 0, none⟩)) := hK.2 ⟨39, .data⟩ (by simp) rfl _ rfl
        have h1 : ac.tmps.getD 88 undef = (.agg (pw a)) := hK.2 ⟨40, .data⟩ (by simp) rfl _ rfl
        have h2 : ac.tmps.getD 89 undef = (.agg (pw b)) := hK.2 ⟨41, .data⟩ (by simp) rfl _ rfl
        refine mm_call 20 #[ac.tmps.getD 87 undef, ac.tmps.getD 88 undef, ac.tmps.getD 89 undef] ((.agg (pw d))) rfl (wanted_of (d := 86) rfl (by kernel_rfl) hg) (by kernel_rfl) ?_ hC (by kernel_rfl) (by rw [hsz]; exact of_decide_eq_true (by kernel_rfl)) rfl
        rw [h0, h1, h2]
        exact HSU.out wx (H6.out.below hC.1).fld
      · intro ac wx hC hsz hK
        have hg : ac.tmps.getD 86 undef = (.bool true) := hK.2 ⟨38, .guard⟩ (by simp) rfl _ rfl
        have h0 : ac.tmps.getD 3 undef = (.pointer (some ⟨w.heap.size, 0, none⟩)) := hK.1 3 (by kernel_rfl)
        exact mm_load 24 (.tmp 3) ((.pointer (some ⟨w.heap.size, 0, none⟩))) ((.agg (pw m))) rfl rfl (wanted_of (d := 86) rfl (by kernel_rfl) hg) h0 (ld_pw ((H6.out.below hC.1).is _ _ (by simp))) hC (by kernel_rfl) (by rw [hsz]; exact of_decide_eq_true (by kernel_rfl)) rfl
      · intro ac wx hC hsz hK
        have hg : ac.tmps.getD 86 undef = (.bool true) := hK.2 ⟨38, .guard⟩ (by simp) rfl _ rfl
        have h0 : ac.tmps.getD 91 undef = (.agg (pw m)) := hK.2 ⟨43, .data⟩ (by simp) rfl _ rfl
        refine mm_callx 18 #[ac.tmps.getD 91 undef] (fun v wx => RMade m v wx) rfl (wanted_of (d := 86) rfl (by kernel_rfl) hg) (by kernel_rfl) ?_ hC (by kernel_rfl) (by rw [hsz]; exact of_decide_eq_true (by kernel_rfl)) rfl
        rw [h0]
        exact HNW.out wx
      · intro ac wx hC hsz hK
        have hg : ac.tmps.getD 86 undef = (.bool true) := hK.2 ⟨38, .guard⟩ (by simp) rfl _ rfl
        have h0 : ac.tmps.getD 9 undef = (.pointer (some ⟨g9, 0, none⟩)) := hK.1 9 (by kernel_rfl)
        exact mm_load 24 (.tmp 9) ((.pointer (some ⟨g9, 0, none⟩))) ((.agg (pw one))) rfl rfl (wanted_of (d := 86) rfl (by kernel_rfl) hg) h0 (ld_pw ((H6.out.below hC.1).is _ _ (by simp))) hC (by kernel_rfl) (by rw [hsz]; exact of_decide_eq_true (by kernel_rfl)) rfl
      · intro ac wx hC hsz hK
        have hg : ac.tmps.getD 86 undef = (.bool true) := hK.2 ⟨38, .guard⟩ (by simp) rfl _ rfl
        have h0 : ac.tmps.getD 10 undef = (.pointer (some ⟨g10, 0, none⟩)) := hK.1 10 (by kernel_rfl)
        exact mm_load 24 (.tmp 10) ((.pointer (some ⟨g10, 0, none⟩))) ((.agg (pw two))) rfl rfl (wanted_of (d := 86) rfl (by kernel_rfl) hg) h0 (ld_pw ((H6.out.below hC.1).is _ _ (by simp))) hC (by kernel_rfl) (by rw [hsz]; exact of_decide_eq_true (by kernel_rfl)) rfl
      · intro ac wx hC hsz hK
        have hg : ac.tmps.getD 86 undef = (.bool true) := hK.2 ⟨38, .guard⟩ (by simp) rfl _ rfl
        obtain ⟨G0, h0, hG0⟩ := hK.2 ⟨44, .data⟩ (by simp) rfl _ rfl
        have h0 : ac.tmps.getD 92 undef = .pointer (some ⟨G0, 0, none⟩) := h0
        have h1 : ac.tmps.getD 93 undef = (.agg (pw one)) := hK.2 ⟨45, .data⟩ (by simp) rfl _ rfl
        have h2 : ac.tmps.getD 94 undef = (.agg (pw two)) := hK.2 ⟨46, .data⟩ (by simp) rfl _ rfl
        refine mm_call 19 #[ac.tmps.getD 92 undef, ac.tmps.getD 93 undef, ac.tmps.getD 94 undef] ((.agg (pw d))) rfl (wanted_of (d := 86) rfl (by kernel_rfl) hg) (by kernel_rfl) ?_ hC (by kernel_rfl) (by rw [hsz]; exact of_decide_eq_true (by kernel_rfl)) rfl
        rw [h0, h1, h2]
        exact by obtain ⟨lo, hR⟩ := hG0; exact HDS.out G0 lo wx hR
      · intro ac wx hC hsz hK
        have hg : ac.tmps.getD 86 undef = (.bool true) := hK.2 ⟨38, .guard⟩ (by simp) rfl _ rfl
        have h0 : ac.tmps.getD 90 undef = (.agg (pw d)) := hK.2 ⟨42, .data⟩ (by simp) rfl _ rfl
        have h1 : ac.tmps.getD 95 undef = (.agg (pw d)) := hK.2 ⟨47, .data⟩ (by simp) rfl _ rfl
        exact mm_bin .eql 24 (.tmp 90) (.tmp 95) 24 ((.agg (pw d))) ((.agg (pw d))) ((.bool true)) rfl rfl (wanted_of (d := 86) rfl (by kernel_rfl) hg) h0 h1 (by kernel_rfl) (HED.out wx) hC (by kernel_rfl) (by rw [hsz]; exact of_decide_eq_true (by kernel_rfl)) rfl
      · intro ac wx hC hsz hK
        have h0 : ac.tmps.getD 86 undef = (.bool true) := hK.2 ⟨38, .data⟩ (by simp) rfl _ rfl
        have h1 : ac.tmps.getD 96 undef = (.bool true) := hK.2 ⟨48, .data⟩ (by simp) rfl _ rfl
        exact mm_val ((.bool true)) rfl (by kernel_rfl) (run_pick (.tmp 86) (.tmp 96) (.const (.bool false)) true ((.bool true)) rfl h0 (h1)) hC (by kernel_rfl) (by rw [hsz]; exact of_decide_eq_true (by kernel_rfl)) rfl
      · intro ac wx hC hsz hK
        have h0 : ac.tmps.getD 97 undef = (.bool true) := hK.2 ⟨49, .data⟩ (by simp) rfl _ rfl
        exact mm_val ((.bool true)) rfl (by kernel_rfl) (by rw [← h0]; kernel_rfl) hC (by kernel_rfl) (by rw [hsz]; exact of_decide_eq_true (by kernel_rfl)) rfl
      · intro ac wx hC hsz hK
        have hg : ac.tmps.getD 98 undef = (.bool true) := hK.2 ⟨50, .guard⟩ (by simp) rfl _ rfl
        refine mm_call 10 #[] ((.bool true)) rfl (wanted_of (d := 98) rfl (by kernel_rfl) hg) (by kernel_rfl) ?_ hC (by kernel_rfl) (by rw [hsz]; exact of_decide_eq_true (by kernel_rfl)) rfl
        exact flives_any wx
      · intro ac wx hC hsz hK
        have h0 : ac.tmps.getD 98 undef = (.bool true) := hK.2 ⟨50, .data⟩ (by simp) rfl _ rfl
        have h1 : ac.tmps.getD 99 undef = (.bool true) := hK.2 ⟨51, .data⟩ (by simp) rfl _ rfl
        exact mm_val ((.bool true)) rfl (by kernel_rfl) (run_pick (.tmp 98) (.tmp 99) (.const (.bool false)) true ((.bool true)) rfl h0 (h1)) hC (by kernel_rfl) (by rw [hsz]; exact of_decide_eq_true (by kernel_rfl)) rfl
      · intro ac wx hC hsz hK
        have h0 : ac.tmps.getD 100 undef = (.bool true) := hK.2 ⟨52, .data⟩ (by simp) rfl _ rfl
        exact mm_val ((.bool true)) rfl (by kernel_rfl) (by rw [← h0]; kernel_rfl) hC (by kernel_rfl) (by rw [hsz]; exact of_decide_eq_true (by kernel_rfl)) rfl
    intro f1 w7 hb7 hap hf7
    have s6 := hf7 53 _ rfl
    have H7 := Lib.hid (H6.out.old.trans (hb7.mono H6.out.old.size))
    clear hf7 hap hb7 H6
    generalize hAct : putAll _ _ _ = A1 at *
    have s6' : A1.tmps.getD 6 undef = .bool true := s6
    have hsz : A1.tmps.size = 101 := by rw [← hAct, putAll_size]; rfl
    have hdf : A1.defers = [] := by subst hAct; kernel_rfl
    clear hAct s6 f1
    obtain ⟨u0, t0⟩ : ∃ u, A1.tmps.getD 0 undef = u := ⟨_, rfl⟩
    obtain ⟨u1, t1⟩ : ∃ u, A1.tmps.getD 1 undef = u := ⟨_, rfl⟩
    obtain ⟨u2, t2⟩ : ∃ u, A1.tmps.getD 2 undef = u := ⟨_, rfl⟩
    obtain ⟨u3, t3⟩ : ∃ u, A1.tmps.getD 3 undef = u := ⟨_, rfl⟩
    obtain ⟨u4, t4⟩ : ∃ u, A1.tmps.getD 4 undef = u := ⟨_, rfl⟩
    obtain ⟨u5, t5⟩ : ∃ u, A1.tmps.getD 5 undef = u := ⟨_, rfl⟩
    obtain ⟨u7, t7⟩ : ∃ u, A1.tmps.getD 7 undef = u := ⟨_, rfl⟩
    obtain ⟨u8, t8⟩ : ∃ u, A1.tmps.getD 8 undef = u := ⟨_, rfl⟩
    obtain ⟨u9, t9⟩ : ∃ u, A1.tmps.getD 9 undef = u := ⟨_, rfl⟩
    obtain ⟨u10, t10⟩ : ∃ u, A1.tmps.getD 10 undef = u := ⟨_, rfl⟩
    obtain ⟨u11, t11⟩ : ∃ u, A1.tmps.getD 11 undef = u := ⟨_, rfl⟩
    obtain ⟨u12, t12⟩ : ∃ u, A1.tmps.getD 12 undef = u := ⟨_, rfl⟩
    obtain ⟨u13, t13⟩ : ∃ u, A1.tmps.getD 13 undef = u := ⟨_, rfl⟩
    obtain ⟨u14, t14⟩ : ∃ u, A1.tmps.getD 14 undef = u := ⟨_, rfl⟩
    obtain ⟨u15, t15⟩ : ∃ u, A1.tmps.getD 15 undef = u := ⟨_, rfl⟩
    obtain ⟨u16, t16⟩ : ∃ u, A1.tmps.getD 16 undef = u := ⟨_, rfl⟩
    obtain ⟨u17, t17⟩ : ∃ u, A1.tmps.getD 17 undef = u := ⟨_, rfl⟩
    obtain ⟨u18, t18⟩ : ∃ u, A1.tmps.getD 18 undef = u := ⟨_, rfl⟩
    obtain ⟨u19, t19⟩ : ∃ u, A1.tmps.getD 19 undef = u := ⟨_, rfl⟩
    obtain ⟨u20, t20⟩ : ∃ u, A1.tmps.getD 20 undef = u := ⟨_, rfl⟩
    obtain ⟨u21, t21⟩ : ∃ u, A1.tmps.getD 21 undef = u := ⟨_, rfl⟩
    obtain ⟨u22, t22⟩ : ∃ u, A1.tmps.getD 22 undef = u := ⟨_, rfl⟩
    obtain ⟨u23, t23⟩ : ∃ u, A1.tmps.getD 23 undef = u := ⟨_, rfl⟩
    obtain ⟨u24, t24⟩ : ∃ u, A1.tmps.getD 24 undef = u := ⟨_, rfl⟩
    obtain ⟨u25, t25⟩ : ∃ u, A1.tmps.getD 25 undef = u := ⟨_, rfl⟩
    obtain ⟨u26, t26⟩ : ∃ u, A1.tmps.getD 26 undef = u := ⟨_, rfl⟩
    obtain ⟨u27, t27⟩ : ∃ u, A1.tmps.getD 27 undef = u := ⟨_, rfl⟩
    obtain ⟨u28, t28⟩ : ∃ u, A1.tmps.getD 28 undef = u := ⟨_, rfl⟩
    obtain ⟨u29, t29⟩ : ∃ u, A1.tmps.getD 29 undef = u := ⟨_, rfl⟩
    obtain ⟨u30, t30⟩ : ∃ u, A1.tmps.getD 30 undef = u := ⟨_, rfl⟩
    obtain ⟨u31, t31⟩ : ∃ u, A1.tmps.getD 31 undef = u := ⟨_, rfl⟩
    obtain ⟨u32, t32⟩ : ∃ u, A1.tmps.getD 32 undef = u := ⟨_, rfl⟩
    obtain ⟨u33, t33⟩ : ∃ u, A1.tmps.getD 33 undef = u := ⟨_, rfl⟩
    obtain ⟨u34, t34⟩ : ∃ u, A1.tmps.getD 34 undef = u := ⟨_, rfl⟩
    obtain ⟨u35, t35⟩ : ∃ u, A1.tmps.getD 35 undef = u := ⟨_, rfl⟩
    obtain ⟨u36, t36⟩ : ∃ u, A1.tmps.getD 36 undef = u := ⟨_, rfl⟩
    obtain ⟨u37, t37⟩ : ∃ u, A1.tmps.getD 37 undef = u := ⟨_, rfl⟩
    obtain ⟨u38, t38⟩ : ∃ u, A1.tmps.getD 38 undef = u := ⟨_, rfl⟩
    obtain ⟨u39, t39⟩ : ∃ u, A1.tmps.getD 39 undef = u := ⟨_, rfl⟩
    obtain ⟨u40, t40⟩ : ∃ u, A1.tmps.getD 40 undef = u := ⟨_, rfl⟩
    obtain ⟨u41, t41⟩ : ∃ u, A1.tmps.getD 41 undef = u := ⟨_, rfl⟩
    obtain ⟨u42, t42⟩ : ∃ u, A1.tmps.getD 42 undef = u := ⟨_, rfl⟩
    obtain ⟨u43, t43⟩ : ∃ u, A1.tmps.getD 43 undef = u := ⟨_, rfl⟩
    obtain ⟨u44, t44⟩ : ∃ u, A1.tmps.getD 44 undef = u := ⟨_, rfl⟩
    obtain ⟨u45, t45⟩ : ∃ u, A1.tmps.getD 45 undef = u := ⟨_, rfl⟩
    obtain ⟨u46, t46⟩ : ∃ u, A1.tmps.getD 46 undef = u := ⟨_, rfl⟩
    obtain ⟨u47, t47⟩ : ∃ u, A1.tmps.getD 47 undef = u := ⟨_, rfl⟩
    obtain ⟨u48, t48⟩ : ∃ u, A1.tmps.getD 48 undef = u := ⟨_, rfl⟩
    obtain ⟨u49, t49⟩ : ∃ u, A1.tmps.getD 49 undef = u := ⟨_, rfl⟩
    obtain ⟨u50, t50⟩ : ∃ u, A1.tmps.getD 50 undef = u := ⟨_, rfl⟩
    obtain ⟨u51, t51⟩ : ∃ u, A1.tmps.getD 51 undef = u := ⟨_, rfl⟩
    obtain ⟨u52, t52⟩ : ∃ u, A1.tmps.getD 52 undef = u := ⟨_, rfl⟩
    obtain ⟨u53, t53⟩ : ∃ u, A1.tmps.getD 53 undef = u := ⟨_, rfl⟩
    obtain ⟨u54, t54⟩ : ∃ u, A1.tmps.getD 54 undef = u := ⟨_, rfl⟩
    obtain ⟨u55, t55⟩ : ∃ u, A1.tmps.getD 55 undef = u := ⟨_, rfl⟩
    obtain ⟨u56, t56⟩ : ∃ u, A1.tmps.getD 56 undef = u := ⟨_, rfl⟩
    obtain ⟨u57, t57⟩ : ∃ u, A1.tmps.getD 57 undef = u := ⟨_, rfl⟩
    obtain ⟨u58, t58⟩ : ∃ u, A1.tmps.getD 58 undef = u := ⟨_, rfl⟩
    obtain ⟨u59, t59⟩ : ∃ u, A1.tmps.getD 59 undef = u := ⟨_, rfl⟩
    obtain ⟨u60, t60⟩ : ∃ u, A1.tmps.getD 60 undef = u := ⟨_, rfl⟩
    obtain ⟨u61, t61⟩ : ∃ u, A1.tmps.getD 61 undef = u := ⟨_, rfl⟩
    obtain ⟨u62, t62⟩ : ∃ u, A1.tmps.getD 62 undef = u := ⟨_, rfl⟩
    obtain ⟨u63, t63⟩ : ∃ u, A1.tmps.getD 63 undef = u := ⟨_, rfl⟩
    obtain ⟨u64, t64⟩ : ∃ u, A1.tmps.getD 64 undef = u := ⟨_, rfl⟩
    obtain ⟨u65, t65⟩ : ∃ u, A1.tmps.getD 65 undef = u := ⟨_, rfl⟩
    obtain ⟨u66, t66⟩ : ∃ u, A1.tmps.getD 66 undef = u := ⟨_, rfl⟩
    obtain ⟨u67, t67⟩ : ∃ u, A1.tmps.getD 67 undef = u := ⟨_, rfl⟩
    obtain ⟨u68, t68⟩ : ∃ u, A1.tmps.getD 68 undef = u := ⟨_, rfl⟩
    obtain ⟨u69, t69⟩ : ∃ u, A1.tmps.getD 69 undef = u := ⟨_, rfl⟩
    obtain ⟨u70, t70⟩ : ∃ u, A1.tmps.getD 70 undef = u := ⟨_, rfl⟩
    obtain ⟨u71, t71⟩ : ∃ u, A1.tmps.getD 71 undef = u := ⟨_, rfl⟩
    obtain ⟨u72, t72⟩ : ∃ u, A1.tmps.getD 72 undef = u := ⟨_, rfl⟩
    obtain ⟨u73, t73⟩ : ∃ u, A1.tmps.getD 73 undef = u := ⟨_, rfl⟩
    obtain ⟨u74, t74⟩ : ∃ u, A1.tmps.getD 74 undef = u := ⟨_, rfl⟩
    obtain ⟨u75, t75⟩ : ∃ u, A1.tmps.getD 75 undef = u := ⟨_, rfl⟩
    obtain ⟨u76, t76⟩ : ∃ u, A1.tmps.getD 76 undef = u := ⟨_, rfl⟩
    obtain ⟨u77, t77⟩ : ∃ u, A1.tmps.getD 77 undef = u := ⟨_, rfl⟩
    obtain ⟨u78, t78⟩ : ∃ u, A1.tmps.getD 78 undef = u := ⟨_, rfl⟩
    obtain ⟨u79, t79⟩ : ∃ u, A1.tmps.getD 79 undef = u := ⟨_, rfl⟩
    obtain ⟨u80, t80⟩ : ∃ u, A1.tmps.getD 80 undef = u := ⟨_, rfl⟩
    obtain ⟨u81, t81⟩ : ∃ u, A1.tmps.getD 81 undef = u := ⟨_, rfl⟩
    obtain ⟨u82, t82⟩ : ∃ u, A1.tmps.getD 82 undef = u := ⟨_, rfl⟩
    obtain ⟨u83, t83⟩ : ∃ u, A1.tmps.getD 83 undef = u := ⟨_, rfl⟩
    obtain ⟨u84, t84⟩ : ∃ u, A1.tmps.getD 84 undef = u := ⟨_, rfl⟩
    obtain ⟨u85, t85⟩ : ∃ u, A1.tmps.getD 85 undef = u := ⟨_, rfl⟩
    obtain ⟨u86, t86⟩ : ∃ u, A1.tmps.getD 86 undef = u := ⟨_, rfl⟩
    obtain ⟨u87, t87⟩ : ∃ u, A1.tmps.getD 87 undef = u := ⟨_, rfl⟩
    obtain ⟨u88, t88⟩ : ∃ u, A1.tmps.getD 88 undef = u := ⟨_, rfl⟩
    obtain ⟨u89, t89⟩ : ∃ u, A1.tmps.getD 89 undef = u := ⟨_, rfl⟩
    obtain ⟨u90, t90⟩ : ∃ u, A1.tmps.getD 90 undef = u := ⟨_, rfl⟩
    obtain ⟨u91, t91⟩ : ∃ u, A1.tmps.getD 91 undef = u := ⟨_, rfl⟩
    obtain ⟨u92, t92⟩ : ∃ u, A1.tmps.getD 92 undef = u := ⟨_, rfl⟩
    obtain ⟨u93, t93⟩ : ∃ u, A1.tmps.getD 93 undef = u := ⟨_, rfl⟩
    obtain ⟨u94, t94⟩ : ∃ u, A1.tmps.getD 94 undef = u := ⟨_, rfl⟩
    obtain ⟨u95, t95⟩ : ∃ u, A1.tmps.getD 95 undef = u := ⟨_, rfl⟩
    obtain ⟨u96, t96⟩ : ∃ u, A1.tmps.getD 96 undef = u := ⟨_, rfl⟩
    obtain ⟨u97, t97⟩ : ∃ u, A1.tmps.getD 97 undef = u := ⟨_, rfl⟩
    obtain ⟨u98, t98⟩ : ∃ u, A1.tmps.getD 98 undef = u := ⟨_, rfl⟩
    obtain ⟨u99, t99⟩ : ∃ u, A1.tmps.getD 99 undef = u := ⟨_, rfl⟩
    obtain ⟨u100, t100⟩ : ∃ u, A1.tmps.getD 100 undef = u := ⟨_, rfl⟩
    obtain ⟨tm, df⟩ := A1
    simp only at *
    have hLt := arr_litS tm
    rw [hsz] at hLt
    simp only [List.range, List.range.loop, List.map] at hLt
    rw [t0, t1, t2, t3, t4, t5, s6', t7, t8, t9, t10, t11, t12, t13, t14, t15, t16, t17, t18, t19, t20, t21, t22, t23, t24, t25, t26, t27, t28, t29, t30, t31, t32, t33, t34, t35, t36, t37, t38, t39, t40, t41, t42, t43, t44, t45, t46, t47, t48, t49, t50, t51, t52, t53, t54, t55, t56, t57, t58, t59, t60, t61, t62, t63, t64, t65, t66, t67, t68, t69, t70, t71, t72, t73, t74, t75, t76, t77, t78, t79, t80, t81, t82, t83, t84, t85, t86, t87, t88, t89, t90, t91, t92, t93, t94, t95, t96, t97, t98, t99, t100] at hLt
    subst hLt hdf
    clear t0 t1 t2 t3 t4 t5 s6' t7 t8 t9 t10 t11 t12 t13 t14 t15 t16 t17 t18 t19 t20 t21 t22 t23 t24 t25 t26 t27 t28 t29 t30 t31 t32 t33 t34 t35 t36 t37 t38 t39 t40 t41 t42 t43 t44 t45 t46 t47 t48 t49 t50 t51 t52 t53 t54 t55 t56 t57 t58 t59 t60 t61 t62 t63 t64 t65 t66 t67 t68 t69 t70 t71 t72 t73 t74 t75 t76 t77 t78 t79 t80 t81 t82 t83 t84 t85 t86 t87 t88 t89 t90 t91 t92 t93 t94 t95 t96 t97 t98 t99 t100 hsz
    go_wp2_with fail
    go_ret
    exact ⟨rfl, H7.out⟩
end Go.Proofs.Ytfgefifplmhopaa
namespace Go.Proofs.Ytfgefifplmhopaa.fieldReckons
open Go.ChangeShapes Go.WideShapes Go.ChangeAt Go.RowKit

set_option maxRecDepth 100000 in
theorem contract (H : Type) (enc : TypeId × Value → H) (W : World) (base : Nat) (args : Array Value) (ds gs : List (DataW H)) (before : List MemPlace)
    (hval : ∀ (j : Nat) t v, Try.f3.params[j]? = some t → args[j]? = some v → Value.okWide Try.prog W .any base t v)
    (hW : DataW.Whole enc Try.prog Try.f3.params.toList Rows.fieldReckonsSpec.vars false W args.toList ds gs before) :
    Calls Try.prog 3 args W fun e W' => ∃ v, e = .returned v ∧ Rows.fieldReckonsSpec.post enc Try.prog Try.f3 false true false false W args v W' := by
  have hW' := hW
  obtain ⟨p, q, hA0, hV, rfl, hfz, hnd⟩ := hW
  have hA : DataW.TrodAll enc Try.prog W 0 (fun _ => true) true Try.f3.params.toList args.toList ds p := hA0
  rw [Try.params3] at hA hval
  obtain ⟨v0, vs0, d0, ds0, p0, q0, hargs, rfl, rfl, h0, r0⟩ := trodAll_cons hA
  obtain ⟨v1, vs1, d1, ds1, p1, q1, rfl, rfl, rfl, h1, r1⟩ := trodAll_cons r0
  obtain ⟨v2, vs2, d2, ds2, p2, q2, rfl, rfl, rfl, h2, r2⟩ := trodAll_cons r1
  obtain ⟨rfl, rfl, rfl⟩ := trodAll_nil r2
  obtain rfl : args = #[v0, v1, v2] := by cases args; simp_all
  obtain ⟨rfl, rfl⟩ := trodVars_none hV
  obtain ⟨x0, rfl, X0⟩ := open_pw (hval 0 24 v0 rfl rfl) h0
  obtain ⟨x1, rfl, X1⟩ := open_pw (hval 1 24 v1 rfl rfl) h1
  obtain ⟨x2, rfl, X2⟩ := open_pw (hval 2 24 v2 rfl rfl) h2
  clear hA0
  refine (freckons_any x0 x1 x2 X0 X1 X2 W).mono fun e W' ⟨he, hb⟩ => ?_
  subst he
  refine ⟨_, rfl, _, _, _, [], p0 ++ (p1 ++ (p2 ++ [])), [], hW', trodAll_cons_mk (shut_bool Try.underlying4 _) trodAll_mk0, trodAll_cons_mk (Below.trod laidOutF (by kernel_rfl) (of_decide_eq_true (by kernel_rfl)) h0 hb (fun x hx => hW'.lt x (by simp [hx]))) (trodAll_cons_mk (Below.trod laidOutF (by kernel_rfl) (of_decide_eq_true (by kernel_rfl)) h1 hb (fun x hx => hW'.lt x (by simp [hx]))) (trodAll_cons_mk (Below.trod laidOutF (by kernel_rfl) (of_decide_eq_true (by kernel_rfl)) h2 hb (fun x hx => hW'.lt x (by simp [hx]))) trodAll_mk0)), rfl, hb.frame _, fun h => by cases h⟩

theorem laid_met (os : Os) : laidMet Try.prog Rows.fieldReckonsRow.laid ((bareWorld os).forCall (fun _ _ => 0) ⟨#[], #[.agg #[.int .u64 0, .int .u64 0, .int .u64 0, .int .u64 0], .agg #[.int .u64 0, .int .u64 0, .int .u64 0, .int .u64 0], .agg #[.int .u64 0, .int .u64 0, .int .u64 0, .int .u64 0]], []⟩).memory :=
  laidMet_of_run' 80 (by kernel_rfl) (by kernel_rfl)
theorem reads (os : Os) {H : Type} (enc : TypeId × Value → H) : ∃ places, DataW.whole enc Try.prog ((bareWorld os).forCall (fun _ _ => 0) ⟨#[], #[.agg #[.int .u64 0, .int .u64 0, .int .u64 0, .int .u64 0], .agg #[.int .u64 0, .int .u64 0, .int .u64 0, .int .u64 0], .agg #[.int .u64 0, .int .u64 0, .int .u64 0, .int .u64 0]], []⟩).memory Try.f3.params.toList Rows.fieldReckonsSpec.vars false (#[.agg #[.int .u64 0, .int .u64 0, .int .u64 0, .int .u64 0], .agg #[.int .u64 0, .int .u64 0, .int .u64 0, .int .u64 0], .agg #[.int .u64 0, .int .u64 0, .int .u64 0, .int .u64 0]] : Array Value).toList 80 = some ([.agg [.lit (.int .u64 0), .lit (.int .u64 0), .lit (.int .u64 0), .lit (.int .u64 0)], .agg [.lit (.int .u64 0), .lit (.int .u64 0), .lit (.int .u64 0), .lit (.int .u64 0)], .agg [.lit (.int .u64 0), .lit (.int .u64 0), .lit (.int .u64 0), .lit (.int .u64 0)]], [], places) :=
  ⟨[], by kernel_rfl⟩

set_option maxRecDepth 100000 in
theorem lifted (os : Os) (started : os.Started) (H : Type) (enc : TypeId × Value → H) (F : Stop.Interp) :
    ReturnsInHanded {} Try.checked os 3 .any ((OpenSpec.ofChange Rows.fieldReckonsSpec).preRow enc Try.prog Try.f3 Rows.fieldReckonsRow.domain false Rows.fieldReckonsRow.laid) (((OpenSpec.ofChange Rows.fieldReckonsSpec).at F).post enc Try.prog Try.f3 false true false false) := by
  obtain ⟨places, hx⟩ := reads os enc
  refine returnsInHanded_of_row (C := Try.checked) (s := OpenSpec.ofChange Rows.fieldReckonsSpec) ownF started (by kernel_rfl) Try.func3
    (witness_row_at (enc := enc) (C := Try.checked) false (bareWorld os) #[.agg #[.int .u64 0, .int .u64 0, .int .u64 0, .int .u64 0], .agg #[.int .u64 0, .int .u64 0, .int .u64 0, .int .u64 0], .agg #[.int .u64 0, .int .u64 0, .int .u64 0, .int .u64 0]] rfl (by kernel_rfl) (by kernel_rfl) (by kernel_rfl)
      (OpenSpec.preRow_of_cond 80 hx (by kernel_rfl) (fun k hk => by cases hk) (by kernel_rfl) (laid_met os))) ?_
  intro W base args ds gs before hval hW _ _ _ _ _ _
  exact contract H enc W base args ds gs before hval hW

theorem said : Rows.FieldReckonsSaid :=
  OpenClaim.holds_of_cond 3 Try.f3 rfl rfl rfl rfl rfl rfl rfl ⟨rfl, rfl, rfl, rfl, rfl⟩ rfl rfl rfl rfl rfl (by kernel_rfl) Try.func3 (by kernel_rfl)
    (of_decide_eq_true (by kernel_rfl)) (by unfold Func.isWrapper; rw [if_neg (of_decide_eq_false (by kernel_rfl))]; exact ⟨rfl, rfl⟩)
    (fun os started H enc _ F => by rw [OpenClaim.pre_eq_preRow]; exact lifted os started H enc F)
end Go.Proofs.Ytfgefifplmhopaa.fieldReckons

/- The root of a number, bit by bit, over digits of 16 bits. -/
import Derived.Test.YtoeomlmnejhgpaaDoorBPrimes
import Derived.Test.YtoeomlmnejhgpaaDoorProd
import Derived.Test.YtoeomlmnejhgpaaDoorLess
namespace Go.Proofs.YtoeomlmnejhgpaaDoor
open Go.RowKit

/-- What is found of a root, bit by bit: so many bits are left. -/
def frs (goal r : Nat) : Nat → Nat → Nat
  | 0, X => X
  | n + 1, X => frs goal r n (if (X + 2 ^ n) ^ r ≤ goal then X + 2 ^ n else X)
def frn (p root bits : Nat) : Nat := frs (p * 2 ^ (root * bits)) root (bits + 5) 0
theorem or_bit (a s : Nat) (h : 2 ^ (s + 1) ∣ a) : a ||| 2 ^ s = a + 2 ^ s := by
  obtain ⟨q, rfl⟩ := h
  have := Nat.two_pow_add_eq_or_of_lt (b := 2 ^ s) (i := s + 1) (by rw [Nat.pow_succ]; have := Nat.two_pow_pos s; omega) q
  omega
theorem or_low16 (n d : Nat) (h : d < 65536) : n * 65536 ||| d = n * 65536 + d := by
  have := Nat.two_pow_add_eq_or_of_lt (b := d) (i := 16) (by omega) n
  rw [show 2 ^ 16 * n = n * 65536 by omega] at this
  omega
theorem vd_low {d : Nat → Nat} (j : Nat) : ∀ n, j ≤ n → ∃ q, vd d n = vd d j + 65536 ^ j * q := by
  intro n
  induction n with
  | zero => intro h; obtain rfl : j = 0 := by omega
            exact ⟨0, by simp⟩
  | succ n ih =>
    intro h
    by_cases e : j = n + 1
    · subst e; exact ⟨0, by simp⟩
    · obtain ⟨q, hq⟩ := ih (by omega)
      refine ⟨q + 65536 ^ (n - j) * d n, ?_⟩
      simp only [vd]
      rw [hq, Nat.mul_add, ← Nat.mul_assoc, ← Nat.pow_add, show j + (n - j) = n by omega, Nat.add_assoc]
theorem pow16 (k : Nat) : (65536 : Nat) ^ k = 2 ^ (16 * k) := by rw [show (65536 : Nat) = 2 ^ 16 by rfl, ← Nat.pow_mul]
theorem digit_dvd {d : Nat → Nat} {B j s : Nat} (hj : j < B) (hs : s ≤ 16) (hd : ∀ i, i < B → d i < 65536) (h : 2 ^ (16 * j + s) ∣ vd d B) : 2 ^ s ∣ d j := by
  obtain ⟨q, hq⟩ := vd_low (d := d) (j + 1) B hj
  have hlow : vd d j < 65536 ^ j := vd_lt fun i hi => hd i (by omega)
  simp only [vd] at hq
  have h16 : 2 ^ (16 * j + s) ∣ 65536 ^ (j + 1) * q := by
    refine Nat.dvd_trans ?_ (Nat.dvd_mul_right _ _)
    rw [pow16]
    exact Nat.pow_dvd_pow 2 (by omega)
  rw [hq] at h
  have h3 := (Nat.dvd_add_left h16).1 h
  have h4 : 65536 ^ j ∣ vd d j + 65536 ^ j * d j := Nat.dvd_trans (by rw [pow16]; exact Nat.pow_dvd_pow 2 (by omega)) h3
  have h5 : 65536 ^ j ∣ vd d j := (Nat.dvd_add_left (Nat.dvd_mul_right _ _)).1 h4
  have h6 : vd d j = 0 := Nat.eq_zero_of_dvd_of_lt h5 hlow
  rw [h6, Nat.zero_add, Nat.pow_add, ← pow16] at h3
  exact Nat.dvd_of_mul_dvd_mul_left (Nat.pow_pos (by omega)) h3
/-- A digit is what the number says. -/
theorem vd_digit {d : Nat → Nat} {B j : Nat} (hj : j < B) (hd : ∀ i, i < B → d i < 65536) : vd d B / 65536 ^ j % 65536 = d j := by
  obtain ⟨q, hq⟩ := vd_low (d := d) (j + 1) B hj
  have hlow : vd d j < 65536 ^ j := vd_lt fun i hi => hd i (by omega)
  have hdj := hd j hj
  simp only [vd] at hq
  rw [hq, Nat.pow_succ, show vd d j + 65536 ^ j * d j + 65536 ^ j * 65536 * q = vd d j + 65536 ^ j * (d j + 65536 * q) by rw [Nat.mul_add, Nat.mul_assoc, Nat.add_assoc], Nat.add_mul_div_left _ _ (Nat.pow_pos (by omega)), Nat.div_eq_of_lt hlow]
  omega
theorem low_next {X b j : Nat} (hj : j < b) : X % 65536 ^ b / 65536 ^ j = X % 65536 ^ b / 65536 ^ (j + 1) * 65536 + X / 65536 ^ j % 65536 := by
  have e : X % 65536 ^ b / 65536 ^ j % 65536 = X / 65536 ^ j % 65536 := by
    have e1 : (65536 : Nat) ^ b = 65536 ^ j * 65536 ^ (b - j) := by rw [← Nat.pow_add, show j + (b - j) = b by omega]
    rw [e1, Nat.mod_mul_right_div_self]
    refine Nat.mod_mod_of_dvd _ ?_
    obtain ⟨t, ht⟩ : ∃ t, b - j = t + 1 := ⟨b - j - 1, by omega⟩
    rw [ht, Nat.pow_succ]
    exact Nat.dvd_mul_left _ _
  rw [Nat.pow_succ, ← Nat.div_div_eq_div_mul, ← e]
  omega
/-- A bit more in a digit. -/
theorem vd_bit {d : Nat → Nat} {B p s : Nat} (hp : p < B) : vd (upd d p (d p + 2 ^ s)) B = vd d B + 2 ^ (16 * p + s) := by
  have h := vd_set d p (d p + 2 ^ s) B hp
  rw [Nat.mul_add, pow16, ← Nat.pow_add] at h
  omega
/-- Digits of the goal. -/
def gdg (p k j : Nat) : Nat := if j = k then p else 0
theorem vd_gdg (p k : Nat) : vd (gdg p k) (k + 1) = p * 65536 ^ k := by
  simp only [vd]
  rw [vd_congr (d := gdg p k) (e := fun _ => 0) (fun j hj => by simp [gdg, show ¬ j = k by omega]), vd_nought]
  simp [gdg, Nat.mul_comm]
theorem dl_pre (p k : Nat) : Value.int .u64 0 :: dl (gdg p k) (k + 1) = dl (gdg p (k + 1)) (1 + (k + 1)) := by
  unfold dl
  rw [Nat.add_comm 1 (k + 1), List.range_succ_eq_map (n := k + 1), List.map_cons, List.map_map]
  have e : gdg p (k + 1) 0 = 0 := by simp [gdg]
  rw [e]
  show Value.int .u64 0 :: _ = Value.int .u64 0 :: _
  congr 1
  apply List.map_congr_left
  intro j hj
  simp [gdg]
theorem fown_one (w : World) : (w.alloc (.cells #[.int .u64 0] 34)).ownsRow w.heap.size 34 1 (.slice (some ⟨w.heap.size, 0, none⟩) 1 1) 1 [.int .u64 0] :=
  ⟨by simp, .inr ⟨w.heap.size, 1, #[.int .u64 0], rfl, Nat.le_refl _, heap_alloc_new _ _, Nat.le_refl _, by unfold maxLen; omega, by simp, by simp⟩⟩
theorem fown_dg {w : World} {base k : Nat} {v : Value} {d : Nat → Nat} (h : w.ownsRow base 34 1 v k (dl d k)) (hk : 0 < k) : ∃ g cap, v = .slice (some ⟨g, 0, none⟩) k cap ∧ base ≤ g ∧ k ≤ cap ∧ Dg w g k d ∧ OutAt w g k d := by
  have h0 := h
  obtain ⟨-, h1⟩ := h
  rcases h1 with ⟨-, h0⟩ | ⟨g, cap, cur, rfl, hg, hc, hnc, hm, hcs, ht⟩
  · omega
  · have h2 : Dg w g k d := ⟨(Array.getElem?_eq_some_iff.1 hc).1, fun j hj => by
      rw [cell_of_row _ _ _ _ _ _ hc, ← dl_at d k j hj, ← ht]
      simp only [Nat.mul_one, List.getElem?_take, hj, if_true]
      simp⟩
    exact ⟨g, cap, rfl, hg, hnc, h2, h2.1, fun j hj => ⟨h2.2 j hj, h0.frozenAt j⟩⟩
theorem fnews_dl {w : World} {g nr : Nat} {dr : Nat → Nat} (h : Dg w g nr dr) : ∀ j u, (dl dr nr)[j]? = some u → w.cell? ((⟨g, 0, none⟩ : Addr).add j) = some u := fun j u hj => by
  have hj2 : j < nr := by
    have := (List.getElem?_eq_some_iff.1 hj).1
    rwa [dl_len] at this
  rw [dl_at _ _ _ hj2] at hj
  cases hj
  have h := h.2 j hj2
  cases j with
  | zero => simpa [Addr.add] using h
  | succ j => simpa [Addr.add] using h
theorem fone_dl (dr : Nat → Nat) (nr : Nat) : ∀ u ∈ dl dr nr, u.oneCell' = true := fun u hu => by
  unfold dl at hu
  rw [List.mem_map] at hu
  obtain ⟨j, -, rfl⟩ := hu
  rfl
/-- What lies while a root is looked for. -/
structure FrR (w : World) (GL G B g n goal r F : Nat) (p : Nat) (d : Nat → Nat) (wx : World) : Prop where
  old : Below w.heap.size w wx
  gl : Dg wx GL (G + 1) (gdg p G)
  hGL : w.heap.size ≤ GL
  x : Dg wx g B d
  hg : w.heap.size ≤ g
  dlt : ∀ j, j < B → d j < 65536
  dvd : 2 ^ n ∣ vd d B
  left : frs goal r n (vd d B) = F
theorem FrR.below {w wx w' : World} {GL G B g n goal r F p : Nat} {d : Nat → Nat} (h : FrR w GL G B g n goal r F p d wx) (hb : Below wx.heap.size wx w') : FrR w GL G B g n goal r F p d w' :=
  ⟨h.old.trans (hb.mono h.old.size), h.gl.below hb, h.hGL, h.x.below hb, h.hg, h.dlt, h.dvd, h.left⟩
/-- Nothing is taken. -/
theorem FrR.stay {w wx w' : World} {GL G B g n goal r F p : Nat} {d : Nat → Nat} (h : FrR w GL G B g (n + 1) goal r F p d wx) (hb : Below wx.heap.size wx w') (hc : ¬ (vd d B + 2 ^ n) ^ r ≤ goal) : FrR w GL G B g n goal r F p d w' := by
  have h2 := h.below hb
  refine ⟨h2.old, h2.gl, h2.hGL, h2.x, h2.hg, h2.dlt, Nat.dvd_trans (Nat.pow_dvd_pow 2 (by omega)) h2.dvd, ?_⟩
  have := h2.left
  rw [frs, if_neg hc] at this
  exact this
/-- The bit is taken. -/
theorem FrR.take {w wx w' : World} {GL G B g g' n goal r F p : Nat} {d e : Nat → Nat} (h : FrR w GL G B g (n + 1) goal r F p d wx) (hb : Below wx.heap.size wx w') (hD : Dg w' g' B e) (hg' : w.heap.size ≤ g') (he : ∀ j, j < B → e j < 65536) (hv : vd e B = vd d B + 2 ^ n) (hc : (vd d B + 2 ^ n) ^ r ≤ goal) : FrR w GL G B g' n goal r F p e w' := by
  have h2 := h.below hb
  refine ⟨h2.old, h2.gl, h2.hGL, hD, hg', he, ?_, ?_⟩
  · rw [hv]
    exact Nat.dvd_add (Nat.dvd_trans (Nat.pow_dvd_pow 2 (by omega)) h2.dvd) (Nat.dvd_refl _)
  · have := h2.left
    rw [frs, if_pos hc] at this
    rw [hv]
    exact this
end Go.Proofs.YtoeomlmnejhgpaaDoor

/- bailiwicklaw13.NibblePaths answers true, whatever the bytes, up to a size. -/
import Derived.Test.YtaopmcpihdcaiaaNHalves
namespace Go.Proofs.Ytaopmcpihdcaiaa
open Go.RowKit

def pN (n : Nat) (f : Nat → Nat) : Nat := if fitB n f = true then 1 + n / 2 else 0
def pE (n : Nat) (f : Nat → Nat) : Int := if fitB n f = true then 0 else 4
def uS (f : Nat → Nat) : Nat := 2 - f 0 / 16 % 2
def uN (n : Nat) (f : Nat → Nat) : Nat := if unOk n f = true then 2 * n - uS f else 0
def uF (f : Nat → Nat) (j : Nat) : Nat := hv f (uS f + j)
def uB (n : Nat) (f : Nat → Nat) : Bool := unOk n f && decide (2 ≤ f 0 / 16)
def uE (n : Nat) (f : Nat → Nat) : Int := if unOk n f = true then 0 else 4
theorem argb_nil (w : World) (f : Nat → Nat) : ArgB w (.slice none 0 0) 0 f := ⟨none, 0, rfl, Nat.le_refl _, fun _ => rfl, .inl rfl⟩
theorem packA_is {w w' : World} {n : Nat} {f : Nat → Nat} {l : Bool} {e : Ending} (h : PackA w n f l e w') : ∃ v, e = .returned (.tuple #[v, .int .i64 (pE n f)]) ∧ ArgB w' v (pN n f) (jn (pnib n f l)) ∧ Below w.heap.size w w' := by
  obtain ⟨h1 | h1, hb⟩ := h
  · obtain ⟨h0, v, rfl, hv⟩ := h1
    exact ⟨v, by simp [pE, h0], by rw [pN, if_pos h0]; exact hv, hb⟩
  · obtain ⟨h0, rfl⟩ := h1
    exact ⟨.slice none 0 0, by simp [pE, h0], by rw [pN, if_neg (by rw [h0]; simp)]; exact argb_nil _ _, hb⟩
theorem unA_is {w w' : World} {n : Nat} {f : Nat → Nat} {e : Ending} (h : UnA w n f e w') : ∃ v, e = .returned (.tuple #[v, .bool (uB n f), .int .i64 (uE n f)]) ∧ ArgB w' v (uN n f) (uF f) ∧ Below w.heap.size w w' := by
  obtain ⟨h1 | h1, hb⟩ := h
  · obtain ⟨h0, v, rfl, hv⟩ := h1
    exact ⟨v, by simp [uE, uB, h0], by rw [uN, if_pos h0]; exact hv, hb⟩
  · obtain ⟨h0, rfl⟩ := h1
    exact ⟨.slice none 0 0, by simp [uE, uB, h0], by rw [uN, if_neg (by rw [h0]; simp)]; exact argb_nil _ _, hb⟩
theorem lf_le (l : Bool) : lf l = 0 ∧ l = false ∨ lf l = 2 ∧ l = true := by cases l <;> simp [lf]
/-- A path's bytes. -/
def pB (n : Nat) (f : Nat → Nat) (l : Bool) : Nat → Nat := tr (1 + n / 2) (jn (pnib n f l))
theorem hv_pB {n : Nat} {f : Nat → Nat} {l : Bool} (hf : fitB n f = true) (j : Nat) (hj : j < 2 * (1 + n / 2)) : hv (pB n f l) j = pnib n f l j := by
  have hp := pnib_le (l := l) (fit_le hf)
  have h1 : j / 2 < 1 + n / 2 := by omega
  have a0 := hp (2 * (j / 2)) (by omega)
  have a1 := hp (2 * (j / 2) + 1) (by omega)
  unfold hv pB
  rw [tr_at h1]
  unfold jn
  split
  · rw [show pnib n f l j = pnib n f l (2 * (j / 2)) by congr 1; omega]
    omega
  · rw [show pnib n f l j = pnib n f l (2 * (j / 2) + 1) by congr 1; omega]
    omega
theorem pB_zero {n : Nat} {f : Nat → Nat} {l : Bool} (hf : fitB n f = true) : pB n f l 0 / 16 = pnib n f l 0 ∧ pB n f l 0 % 16 = pnib n f l 1 := by
  have h0 := hv_pB (l := l) hf 0 (by omega)
  have h1 := hv_pB (l := l) hf 1 (by omega)
  simp [hv] at h0 h1
  exact ⟨h0, h1⟩
theorem pB_lt {n : Nat} {f : Nat → Nat} {l : Bool} (hf : fitB n f = true) (j : Nat) : pB n f l j < 256 := tr_lt (by omega) (fun j hj => jn_lt (n := 1 + n / 2) (fun j hj => pnib_le (fit_le hf) j hj) j hj) j
theorem pn_ev {n : Nat} {f : Nat → Nat} {l : Bool} (h : n % 2 = 0) : pnib n f l 0 = lf l ∧ pnib n f l 1 = 0 ∧ ∀ j, pnib n f l (2 + j) = f j := by
  unfold pnib
  refine ⟨by simp [h], by simp [h], fun j => ?_⟩
  rw [if_pos h, if_neg (by omega), if_neg (by omega), show 2 + j - 2 = j by omega]
theorem pn_od {n : Nat} {f : Nat → Nat} {l : Bool} (h : ¬ n % 2 = 0) : pnib n f l 0 = lf l + 1 ∧ ∀ j, pnib n f l (1 + j) = f j := by
  unfold pnib
  refine ⟨by simp [h], fun j => ?_⟩
  rw [if_neg h, if_neg (by omega), show 1 + j - 1 = j by omega]
/-- A path that was packed is one, and its nibbles come back. -/
theorem back_ok {n : Nat} {f : Nat → Nat} {l : Bool} (hf : fitB n f = true) : unOk (1 + n / 2) (pB n f l) = true ∧ uN (1 + n / 2) (pB n f l) = n ∧ uB (1 + n / 2) (pB n f l) = l ∧ ∀ j, j < n → uF (pB n f l) j = f j := by
  obtain ⟨z0, z1⟩ := pB_zero (l := l) hf
  have hl := lf_le l
  by_cases h : n % 2 = 0
  · obtain ⟨e0, e1, e2⟩ := pn_ev (f := f) (l := l) h
    rw [e0] at z0
    rw [e1] at z1
    have hs : uS (pB n f l) = 2 := by unfold uS; rw [z0]; rcases hl with hl | hl <;> omega
    have ho : unOk (1 + n / 2) (pB n f l) = true := by
      unfold unOk
      rw [z0, z1]
      rcases hl with ⟨hl, -⟩ | ⟨hl, -⟩ <;> simp [hl] <;> omega
    refine ⟨ho, ?_, ?_, fun j hj => ?_⟩
    · unfold uN
      rw [if_pos ho, hs]
      omega
    · unfold uB
      rw [ho, z0]
      rcases hl with ⟨hl, rfl⟩ | ⟨hl, rfl⟩ <;> simp [hl]
    · unfold uF
      rw [hs, hv_pB hf _ (by omega), e2]
  · obtain ⟨e0, e2⟩ := pn_od (f := f) (l := l) h
    rw [e0] at z0
    have hs : uS (pB n f l) = 1 := by unfold uS; rw [z0]; rcases hl with hl | hl <;> omega
    have ho : unOk (1 + n / 2) (pB n f l) = true := by
      unfold unOk
      rw [z0]
      rcases hl with ⟨hl, -⟩ | ⟨hl, -⟩ <;> simp [hl] <;> omega
    refine ⟨ho, ?_, ?_, fun j hj => ?_⟩
    · unfold uN
      rw [if_pos ho, hs]
      omega
    · unfold uB
      rw [ho, z0]
      rcases hl with ⟨hl, rfl⟩ | ⟨hl, rfl⟩ <;> simp [hl]
    · unfold uF
      rw [hs, hv_pB hf _ (by omega), e2]
/-- What was unpacked comes back as bytes. -/
theorem there_ok {m : Nat} {g : Nat → Nat} (hg : ∀ j, g j < 256) (ho : unOk m g = true) : fitB (uN m g) (uF g) = true ∧ 1 + uN m g / 2 = m ∧ ∀ j, jn (pnib (uN m g) (uF g) (uB m g)) j = g j := by
  have ho' := ho
  unfold unOk at ho'
  simp only [Bool.and_eq_true, Bool.or_eq_true, decide_eq_true_eq] at ho'
  obtain ⟨⟨h0, h1⟩, h2⟩ := ho'
  have hN : uN m g = 2 * m - uS g := by unfold uN; rw [if_pos ho]
  have hfit : fitB (uN m g) (uF g) = true := by
    unfold fitB
    rw [decide_eq_true_iff]
    intro j _
    have := hv_lt hg (uS g + j)
    unfold uF
    omega
  have hlb : lf (uB m g) = if 2 ≤ g 0 / 16 then 2 else 0 := by
    unfold uB lf
    rw [ho]
    by_cases h : 2 ≤ g 0 / 16 <;> simp [h]
  have hp : ∀ j, pnib (uN m g) (uF g) (uB m g) j = hv g j := by
    intro j
    by_cases hodd : g 0 / 16 % 2 = 1
    · have hs : uS g = 1 := by unfold uS; omega
      have hpar : ¬ uN m g % 2 = 0 := by rw [hN, hs]; omega
      obtain ⟨e0, e2⟩ := pn_od (f := uF g) (l := uB m g) hpar
      by_cases hj : j = 0
      · subst hj
        rw [e0, hlb]
        simp only [hv, Nat.zero_mod, if_true, Nat.zero_div]
        split <;> omega
      · rw [show j = 1 + (j - 1) by omega, e2]
        unfold uF
        rw [hs]
    · have hs : uS g = 2 := by unfold uS; omega
      have hpar : uN m g % 2 = 0 := by rw [hN, hs]; omega
      obtain ⟨e0, e1, e2⟩ := pn_ev (f := uF g) (l := uB m g) hpar
      by_cases hj : j = 0
      · subst hj
        rw [e0, hlb]
        simp only [hv, Nat.zero_mod, if_true, Nat.zero_div]
        split <;> omega
      · by_cases hj1 : j = 1
        · subst hj1
          rw [e1]
          simp [hv]
          rcases h2 with h2 | h2
          · exact absurd h2 hodd
          · omega
        · rw [show j = 2 + (j - 2) by omega, e2]
          unfold uF
          rw [hs]
  refine ⟨hfit, ?_, fun j => ?_⟩
  · rw [hN]
    unfold uS
    omega
  · unfold jn
    rw [hp, hp]
    exact jn_hv g j
set_option maxRecDepth 100000 in
set_option maxHeartbeats 8000000 in
theorem npaths {n m : Nat} {f g : Nat → Nat} {l : Bool} {u v : Value} {w : World} (hn : n ≤ 1048576) (hm : m ≤ 1048576) (hg : ∀ j, g j < 256) (hP : ArgB w u n f) (hR : ArgB w v m g) : Calls Try.prog 4 #[u, .bool l, v] w fun e w' => e = .returned (.bool true) ∧ Below w.heap.size w w' := by
  have HG := Lib.hid hg
  have HU := Lib.hid hP
  have HV := Lib.hid hR
  obtain ⟨a, cap, rfl, -, -, -⟩ := hP
  obtain ⟨b, cap2, rfl, -, -, -⟩ := hR
  clear hg
  go_enter Try.func4, Try.ntmps4
  go_upto_region 2 with (first | (at_builtin; obtain ⟨v', w', hr, ho, ⟨g1, c1, rfl⟩, hb⟩ := clone8 (show n ≤ 100000000 by omega) HU.out; refine Go.Lib.wpList_append_run _ rfl _ _ 22 22 rfl _ _ rfl rfl _ _ hr ?_; have H1 := Lib.hid (And.intro ho hb); clear hr ho hb) | (go_at_call 11; refine (pack_any (n := n) (f := f) (l := l) (by omega) (own_arg H1.out.1)).mono ?_; intro e w2 h; obtain ⟨v7, rfl, hv7, hb⟩ := packA_is h; have H7 := Lib.hid (And.intro hv7 (H1.out.2.trans (hb.mono H1.out.2.size))); clear h hv7 hb H1))
  go_upto_region 3 with (go_at_call 12; refine (rpack_any (n := n) (f := f) (l := l) (by omega) (HU.out.below H7.out.2)).mono ?_; intro e w3 h; obtain ⟨v9, rfl, hv9, hb⟩ := packA_is h; have H9 := Lib.hid (And.intro hv9 (H7.out.2.trans (hb.mono H7.out.2.size))); replace H7 := Lib.hid (H7.out.1.below hb); clear h hv9 hb)
  go_upto_region 4 with (first | (at_builtin; obtain ⟨v', w', hr, ho, ⟨g1, c1, rfl⟩, hb⟩ := clone8 (show m ≤ 100000000 by omega) (HV.out.below H9.out.2); refine Go.Lib.wpList_append_run _ rfl _ _ 22 22 rfl _ _ rfl rfl _ _ hr ?_; have H1 := Lib.hid (And.intro ho hb); clear hr ho hb) | (go_at_call 13; refine (unpack_any (n := m) (f := g) (by omega) HG.out (own_arg H1.out.1)).mono ?_; intro e w4 h; obtain ⟨v11, rfl, hv11, hb⟩ := unA_is h; have hb' := H1.out.2.trans (hb.mono H1.out.2.size); have H11 := Lib.hid (And.intro hv11 (H9.out.2.trans (hb'.mono H9.out.2.size))); replace H7 := Lib.hid (H7.out.below hb'); replace H9 := Lib.hid (H9.out.1.below hb'); clear h hv11 hb hb' H1))
  go_upto_region 5 with (go_at_call 14; refine (runpack_any (n := m) (f := g) (by omega) HG.out (HV.out.below H11.out.2)).mono ?_; intro e w5 h; obtain ⟨v14, rfl, hv14, hb⟩ := unA_is h; have HW := Lib.hid (H11.out.2.trans (hb.mono H11.out.2.size)); have H14 := Lib.hid hv14; replace H7 := Lib.hid (H7.out.below hb); replace H9 := Lib.hid (H9.out.below hb); replace H11 := Lib.hid (H11.out.1.below hb); clear h hv14 hb)
  obtain ⟨s1, hs1⟩ : ∃ s, strB (pN n f) (jn (pnib n f l)) = s := ⟨_, rfl⟩
  obtain ⟨s2, hs2⟩ : ∃ s, strB (uN m g) (uF g) = s := ⟨_, rfl⟩
  obtain ⟨s3, hs3⟩ : ∃ s, strB n f = s := ⟨_, rfl⟩
  obtain ⟨s4, hs4⟩ : ∃ s, strB m g = s := ⟨_, rfl⟩
  have c1 := str_run H7.out
  have c2 := str_run H9.out
  have c3 := str_run H11.out
  have c4 := str_run H14.out
  rw [hs1] at c1 c2
  rw [hs2] at c3 c4
  obtain ⟨t, ht⟩ : ∃ t, uB m g = t := ⟨_, rfl⟩
  rw [ht]
  have HT := Lib.hid ht
  have HS3 := Lib.hid hs3
  have HS4 := Lib.hid hs4
  clear hs1 hs2 hs3 hs4 ht H9 H14
  cases hft : fitB n f with
  | false =>
    have HFT := Lib.hid hft
    rw [show pE n f = 4 by simp [pE, hft]]
    clear hft H7
    cases hun : unOk m g with
    | false =>
      have HUN := Lib.hid hun
      rw [show uE m g = 4 by simp [uE, hun]]
      clear hun
      go_wp2_with (first | (go_at_call 10; refine (lives_any _).mono ?_; rintro e w8 ⟨rfl, hb⟩; replace HW := Lib.hid (HW.out.trans (hb.mono HW.out.size)); clear hb))
      go_ret
      exact ⟨rfl, HW.out⟩
    | true =>
      have HUN := Lib.hid hun
      rw [show uE m g = 0 by simp [uE, hun]]
      clear hun
      go_wp2_with (first | (go_at_call 11; refine (pack_any (n := uN m g) (f := uF g) (l := t) (by have := (there_ok HG.out HUN.out).2.1; omega) H11.out).mono ?_; intro e w7 h; obtain ⟨v20, rfl, hv20, hb⟩ := packA_is h; rw [show pE (uN m g) (uF g) = 0 by unfold pE; rw [if_pos (there_ok HG.out HUN.out).1]]; have k1 := str_run hv20; rw [show pN (uN m g) (uF g) = m by unfold pN; rw [if_pos (there_ok HG.out HUN.out).1]; exact (there_ok HG.out HUN.out).2.1, ← HT.out, strB_congr (fun j _ => (there_ok HG.out HUN.out).2.2 j), HS4.out] at k1; have k2 := str_run (HV.out.below (HW.out.trans (hb.mono HW.out.size))); rw [HS4.out] at k2; replace HW := Lib.hid (HW.out.trans (hb.mono HW.out.size)); clear h hv20 hb) | (go_at_call 10; refine (lives_any _).mono ?_; rintro e w8 ⟨rfl, hb⟩; replace HW := Lib.hid (HW.out.trans (hb.mono HW.out.size)); clear hb))
      go_ret
      exact ⟨rfl, HW.out⟩
  | true =>
    have HFT := Lib.hid hft
    rw [show pE n f = 0 by simp [pE, hft]]
    have HX := Lib.hid (show ArgB w5 v7 (1 + n / 2) (pB n f l) from by
      have h := H7.out
      rw [show pN n f = 1 + n / 2 by unfold pN; rw [if_pos hft]] at h
      exact argb_tr h)
    clear hft H7
    cases hun : unOk m g with
    | false =>
      have HUN := Lib.hid hun
      rw [show uE m g = 4 by simp [uE, hun]]
      clear hun
      go_wp2_with (first | (go_at_call 13; refine (unpack_any (n := 1 + n / 2) (f := pB n f l) (by omega) (pB_lt HFT.out) HX.out).mono ?_; intro e w6 h; obtain ⟨v17, rfl, hv17, hb⟩ := unA_is h; rw [(back_ok HFT.out).2.2.1]; rw [show uE (1 + n / 2) (pB n f l) = 0 by unfold uE; rw [if_pos (back_ok HFT.out).1]]; have d1 := str_run hv17; rw [(back_ok HFT.out).2.1, strB_congr (back_ok HFT.out).2.2.2, HS3.out] at d1; have d2 := str_run (HU.out.below (HW.out.trans (hb.mono HW.out.size))); rw [HS3.out] at d2; replace H11 := Lib.hid (H11.out.below hb); replace HW := Lib.hid (HW.out.trans (hb.mono HW.out.size)); clear h hv17 hb c1 c2 c3 c4) | (go_at_call 10; refine (lives_any _).mono ?_; rintro e w8 ⟨rfl, hb⟩; replace HW := Lib.hid (HW.out.trans (hb.mono HW.out.size)); clear hb))
      go_ret
      exact ⟨rfl, HW.out⟩
    | true =>
      have HUN := Lib.hid hun
      rw [show uE m g = 0 by simp [uE, hun]]
      clear hun
      go_wp2_with (first | (go_at_call 13; refine (unpack_any (n := 1 + n / 2) (f := pB n f l) (by omega) (pB_lt HFT.out) HX.out).mono ?_; intro e w6 h; obtain ⟨v17, rfl, hv17, hb⟩ := unA_is h; rw [(back_ok HFT.out).2.2.1]; rw [show uE (1 + n / 2) (pB n f l) = 0 by unfold uE; rw [if_pos (back_ok HFT.out).1]]; have d1 := str_run hv17; rw [(back_ok HFT.out).2.1, strB_congr (back_ok HFT.out).2.2.2, HS3.out] at d1; have d2 := str_run (HU.out.below (HW.out.trans (hb.mono HW.out.size))); rw [HS3.out] at d2; replace H11 := Lib.hid (H11.out.below hb); replace HW := Lib.hid (HW.out.trans (hb.mono HW.out.size)); clear h hv17 hb c1 c2 c3 c4) | (go_at_call 11; refine (pack_any (n := uN m g) (f := uF g) (l := t) (by have := (there_ok HG.out HUN.out).2.1; omega) H11.out).mono ?_; intro e w7 h; obtain ⟨v20, rfl, hv20, hb⟩ := packA_is h; rw [show pE (uN m g) (uF g) = 0 by unfold pE; rw [if_pos (there_ok HG.out HUN.out).1]]; have k1 := str_run hv20; rw [show pN (uN m g) (uF g) = m by unfold pN; rw [if_pos (there_ok HG.out HUN.out).1]; exact (there_ok HG.out HUN.out).2.1, ← HT.out, strB_congr (fun j _ => (there_ok HG.out HUN.out).2.2 j), HS4.out] at k1; have k2 := str_run (HV.out.below (HW.out.trans (hb.mono HW.out.size))); rw [HS4.out] at k2; replace HW := Lib.hid (HW.out.trans (hb.mono HW.out.size)); clear h hv20 hb) | (go_at_call 10; refine (lives_any _).mono ?_; rintro e w8 ⟨rfl, hb⟩; replace HW := Lib.hid (HW.out.trans (hb.mono HW.out.size)); clear hb))
      go_ret
      exact ⟨rfl, HW.out⟩
end Go.Proofs.Ytaopmcpihdcaiaa

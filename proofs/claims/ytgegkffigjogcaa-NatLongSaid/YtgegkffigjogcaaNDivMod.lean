/- What nat.DivMod comes to, called with any two numbers. -/
import Derived.Test.YtgegkffigjogcaaNExp
namespace Go.Proofs.Ytgegkffigjogcaa
open Go.RowKit

/-- What a call leaves that tells two numbers, or that it can't. -/
def Ans3 (c Q R : Nat) (w : World) (e : Ending) (w' : World) : Prop := ∃ u v, e = .returned (.tuple #[u, v, .int .i64 (c : Nat)]) ∧ (c = 0 → PV Q u w' ∧ PV R v w') ∧ (c ≠ 0 → u = .slice none 0 0 ∧ v = .slice none 0 0) ∧ Below w.heap.size w w'
theorem Ans3.err {c Q R : Nat} {w w' : World} (h : c ≠ 0) (hb : Below w.heap.size w w') : Ans3 c Q R w (.returned (.tuple #[.slice none 0 0, .slice none 0 0, .int .i64 (c : Nat)])) w' := ⟨_, _, rfl, fun h0 => absurd h0 h, fun _ => ⟨rfl, rfl⟩, hb⟩
/-- What is told of A by B. -/
def cdD (A B : Nat) : Nat := if cd2 A B = 0 then (if B = 0 then 1 else 0) else cd2 A B

set_option maxRecDepth 100000 in
set_option maxHeartbeats 1000000 in
-- WHERE ALL GOES WELL.
theorem divmod_main {a : Option Addr} {n ca : Nat} {f : Nat → Nat} {b : Option Addr} {nm cb : Nat} {g : Nat → Nat} {A M : Nat} {w : World}
    (ha : NvA w a n ca f) (hav : vb 4294967296 f n = A) (hb : NvA w b nm cb g) (hbv : vb 4294967296 g nm = M) (hc : cd2 A M = 0) (hM0 : M ≠ 0) :
    Calls Try.prog 28 #[.slice a n ca, .slice b nm cb] w (Ans3 0 (A / M) (A % M) w) := by
  have hw1 : Below w.heap.size w (w.alloc (.cells #[.slice a n ca, .slice b nm cb] 23)) := (Below.refl _ _).alloc (Nat.le_refl _) _
  have tc := two_cells w (.slice a n ca) (.slice b nm cb) 23
  have HC := Lib.hid (check_two (A := A) (B := M) (NN.below ⟨a, n, ca, f, rfl, ha, hav⟩ hw1) (NN.below ⟨b, nm, cb, g, rfl, hb, hbv⟩ hw1) tc.1 tc.2)
  rw [hc] at HC
  clear tc
  obtain ⟨lA, lM⟩ := cd2_ok hc
  clear hc
  have ha1 := ha.below hw1
  have hb1 := hb.below hw1
  have hn1 : tn f n ≤ 1024 := Nat.le_of_not_lt (fun h => lA (by rw [← hav]; exact (lim_iff ha.lt).1 h))
  have hn3 : tn g nm ≤ 1024 := Nat.le_of_not_lt (fun h => lM (by rw [← hbv]; exact (lim_iff hb.lt).1 h))
  clear lA lM
  have HLM := Lib.hid (len_nv hb1)
  rw [hbv] at HLM
  have elm : (((blN M : Nat) : Int) == 0) = false := by simp [blN_nz hM0]
  have HT := Lib.hid (trim_nv hb1)
  have HTA := Lib.hid (trim_nv ha1)
  obtain ⟨k, hk⟩ : ∃ k, tn g nm = k + 1 := by
    refine ⟨tn g nm - 1, ?_⟩
    rcases Nat.eq_zero_or_pos (tn g nm) with h | h
    · exfalso; apply hM0; rw [← hbv, ← vb_tn, h]; rfl
    · omega
  have hkt : g k ≠ 0 := by
    have := tn_top g nm
    rw [hk] at this
    rcases this with h | h
    · omega
    · simpa using h
  have hbm : vb 4294967296 g (k + 1) = M := by rw [← hk, vb_tn, hbv]
  have hat := ha1.trim
  have hbt := hb1.trim
  have hav1 : vb 4294967296 f (tn f n) = A := by rw [vb_tn, hav]
  obtain ⟨n1, hn1e⟩ : ∃ n1, tn f n = n1 := ⟨_, rfl⟩
  rw [hk] at HT hn3 hbt
  rw [hn1e] at HTA hn1 hat hav1
  have hdv := divide_any a n1 ca b k cb f g (by omega) (by omega) hat.lt hbt.lt hkt _ hat.rd hbt.rd
  rw [hav1, hbm] at hdv
  have HD := Lib.hid hdv
  have HW1 := Lib.hid hw1
  have hn2 : (n1 : Int) ≤ 1024 := by omega
  clear hdv hk hb1 hb hbv hn1e ha1 ha hav hat hbt hav1 hbm hkt hM0 hn1 hn3 hw1
  obtain ⟨w1, hw1e⟩ : ∃ w1, w.alloc (.cells #[.slice a n ca, .slice b nm cb] 23) = w1 := ⟨_, rfl⟩
  rw [hw1e] at HC HLM HT HTA HW1 HD
  go_enter Try.func28, Try.ntmps28
  go_wp2_with fail
  clear hw1e
  refine HC.out.mono ?_
  rintro e w' ⟨rfl, rfl⟩
  go_wp2_with fail
  refine HLM.out.mono ?_
  rintro e w' ⟨rfl, rfl⟩
  go_wp2_with fail
  refine HTA.out.mono ?_
  rintro e w' ⟨rfl, rfl⟩
  go_wp2_with fail
  refine HT.out.mono ?_
  rintro e w' ⟨rfl, rfl⟩
  go_wp2_with fail
  refine HD.out.mono ?_
  rintro e w7 ⟨Q, nq, cq, R, cr, q, r, rfl, hnq, hcq, hcr, -, -, -, hWQ, hWR, hql, hrl, hvq, hvr, hb7⟩
  have hpq := plain_nv (w := w7) (a := some ⟨Q, 0, none⟩) (n := nq) (cap := cq) (f := q) ⟨hcq, hWQ.rd, fun p hp => by cases hp; exact hWQ.1, hql, by omega⟩
  have hnr : NvA w7 (some ⟨R, 0, none⟩) (n1 + 1) cr r := ⟨hcr, hWR.rd, fun p hp => by cases hp; exact hWR.1, hrl, by omega⟩
  rw [hvq] at hpq
  have HPQ := Lib.hid hpq
  have HNR := Lib.hid (And.intro hnr hvr)
  have HB7 := Lib.hid (HW1.out.trans (hb7.mono HW1.out.size))
  clear hpq hnr hnq hcq hcr hWQ hWR hql hrl hvq hvr hb7
  go_wp2_with fail
  refine HPQ.out.mono ?_
  rintro e w8 ⟨u, rfl, hu, hb8⟩
  have hpr := plain_nv (HNR.out.1.below hb8)
  rw [HNR.out.2] at hpr
  have HPR := Lib.hid hpr
  have HU := Lib.hid (And.intro hu (HB7.out.trans (hb8.mono HB7.out.size)))
  clear hpr hu hb8
  go_wp2_with fail
  refine HPR.out.mono ?_
  rintro e w9 ⟨v, rfl, hv, hb9⟩
  have HF : Hid (Ans3 0 (A / M) (A % M) w (.returned (.tuple #[u, v, .int .i64 ((0 : Nat) : Int)])) w9) := Lib.hid ⟨u, v, rfl, fun _ => ⟨HU.out.1.below hb9, hv⟩, fun h => absurd rfl h, HU.out.2.trans (hb9.mono HU.out.2.size)⟩
  clear hv hb9
  go_wp2
  go_ret3
  exact HF.out
set_option maxRecDepth 100000 in
set_option maxHeartbeats 1000000 in
-- WHAT nat.DivMod COMES TO.
theorem divmod_api {A M : Nat} {va vm : Value} {w : World} (hA : NN A va w) (hM : NN M vm w) : Calls Try.prog 28 #[va, vm] w (Ans3 (cdD A M) (A / M) (A % M) w) := by
  have hA' := hA
  have hM' := hM
  obtain ⟨a, n, ca, f, rfl, ha, hav⟩ := hA'
  obtain ⟨b, nm, cb, g, rfl, hb, hbv⟩ := hM'
  have hw1 : Below w.heap.size w (w.alloc (.cells #[.slice a n ca, .slice b nm cb] 23)) := (Below.refl _ _).alloc (Nat.le_refl _) _
  have tc := two_cells w (.slice a n ca) (.slice b nm cb) 23
  have HC := Lib.hid (check_two (hA.below hw1) (hM.below hw1) tc.1 tc.2)
  clear tc
  by_cases h0 : cd2 A M = 0
  · by_cases hm0 : M = 0
    · have ec : cdD A M = 1 := by unfold cdD; rw [if_pos h0, if_pos hm0]
      rw [ec]
      rw [h0] at HC
      have HLM := Lib.hid (len_nv (hb.below hw1))
      rw [hbv, show blN M = 0 by rw [hm0]; rfl] at HLM
      have HW1 := Lib.hid hw1
      clear hw1 ha hb hav hbv hA hM h0 hm0 ec
      go_enter Try.func28, Try.ntmps28
      go_wp2_with fail
      refine HC.out.mono ?_
      rintro e w' ⟨rfl, rfl⟩
      go_wp2_with fail
      refine HLM.out.mono ?_
      rintro e w' ⟨rfl, rfl⟩
      go_wp2
      go_ret3
      exact Ans3.err (by omega) HW1.out
    · have ec : cdD A M = 0 := by unfold cdD; rw [if_pos h0, if_neg hm0]
      rw [ec]
      exact divmod_main ha hav hb hbv h0 hm0
  · have ec : cdD A M = cd2 A M := by unfold cdD; rw [if_neg h0]
    rw [ec]
    clear ec
    obtain ⟨c, hc⟩ : ∃ c, cd2 A M = c := ⟨_, rfl⟩
    rw [hc] at HC h0 ⊢
    have e0 : ((c : Int) != 0) = true := by simp [h0]
    have H0 := Lib.hid h0; clear h0 hav hbv ha hb hc hA hM
    have HW1 := Lib.hid hw1; clear hw1
    go_enter Try.func28, Try.ntmps28
    go_wp2_with fail
    refine HC.out.mono ?_
    rintro e w' ⟨rfl, rfl⟩
    go_wp2
    go_ret3
    exact Ans3.err H0.out HW1.out
end Go.Proofs.Ytgegkffigjogcaa

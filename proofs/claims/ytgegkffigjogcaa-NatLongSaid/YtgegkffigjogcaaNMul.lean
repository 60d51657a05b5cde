/- What nat.Mul comes to. -/
import Derived.Test.YtgegkffigjogcaaNAdd
namespace Go.Proofs.Ytgegkffigjogcaa
open Go.RowKit

set_option maxRecDepth 100000 in
set_option maxHeartbeats 1000000 in
-- WHAT nat.Mul COMES TO.
theorem mul_api {A B : Nat} {va vb' : Value} {w : World} (hA : NN A va w) (hB : NN B vb' w) : Calls Try.prog 19 #[va, vb'] w (Ans (cdMul A B) (A * B) w) := by
  have hA' := hA
  have hB' := hB
  obtain ⟨a, n, ca, f, rfl, ha, hav⟩ := hA'
  obtain ⟨b, m, cb, g, rfl, hb, hbv⟩ := hB'
  have hw1 : Below w.heap.size w (w.alloc (.cells #[.slice a n ca, .slice b m cb] 23)) := (Below.refl _ _).alloc (Nat.le_refl _) _
  have HC := Lib.hid (check_two (hA.below hw1) (hB.below hw1) (two_cells w _ _ _).1 (two_cells w _ _ _).2)
  obtain ⟨c, hc⟩ : ∃ c, cd2 A B = c := ⟨_, rfl⟩
  unfold cdMul
  rw [hc] at HC ⊢
  clear hA hB
  by_cases h0 : c = 0
  · have h0' : cd2 A B = 0 := hc.trans h0
    clear hc
    rw [if_pos h0]
    have e0 : ((c : Int) != 0) = false := by simp [h0]
    clear h0
    have ha1 := ha.below hw1
    have hb1 := hb.below hw1
    have HT1 := Lib.hid (trim_nv ha1)
    have HT2 := Lib.hid (trim_nv hb1)
    have ht1 := ha1.trim
    have ht2 := hb1.trim
    obtain ⟨n', hn'⟩ : ∃ n', tn f n = n' := ⟨_, rfl⟩
    obtain ⟨m', hm'⟩ : ∃ m', tn g m = m' := ⟨_, rfl⟩
    have hav' : vb 4294967296 f n' = A := by rw [← hn', vb_tn, hav]
    have hbv' : vb 4294967296 g m' = B := by rw [← hm', vb_tn, hbv]
    have hl1 : n' ≤ 1024 := by rw [← hn']; exact Nat.le_of_not_lt (fun h => absurd ((lim_iff ha.lt).1 h) (by rw [hav]; exact (cd2_ok h0').1))
    have hl2 : m' ≤ 1024 := by rw [← hm']; exact Nat.le_of_not_lt (fun h => absurd ((lim_iff hb.lt).1 h) (by rw [hbv]; exact (cd2_ok h0').2))
    rw [hn'] at HT1 ht1
    rw [hm'] at HT2 ht2
    clear hn' hm' hav hbv ha hb ha1 hb1 h0'
    have hf1 : (n' : Int) ≤ 1024 := by have := hl1; omega
    have hf2 : (m' : Int) ≤ 1024 := by have := hl2; omega
    have HW1 := Lib.hid hw1; clear hw1
    have HA := Lib.hid ht1; clear ht1
    have HB := Lib.hid ht2; clear ht2
    have HAV := Lib.hid hav'; clear hav'
    have HBV := Lib.hid hbv'; clear hbv'
    obtain ⟨w1, hw1e⟩ : ∃ w1, w.alloc (.cells #[.slice a n ca, .slice b m cb] 23) = w1 := ⟨_, rfl⟩
    rw [hw1e] at HC HT1 HT2 HW1 HA HB
    go_enter Try.func19, Try.ntmps19
    go_wp2_with fail
    clear hw1e
    refine HC.out.mono ?_
    rintro e w' ⟨rfl, rfl⟩
    go_wp2_with fail
    refine HT1.out.mono ?_
    rintro e w' ⟨rfl, rfl⟩
    go_wp2_with fail
    refine HT2.out.mono ?_
    rintro e w' ⟨rfl, rfl⟩
    have HP := Lib.hid (product_any a n' ca b m' cb f g (by omega) (by omega) HA.out.lt HB.out.lt w1 HA.out.rd HB.out.rd HB.out.blk)
    go_wp2_with fail
    refine HP.out.mono ?_
    rintro e w2 ⟨g2, o, rfl, hg2, hwr, hol, hov, hb2⟩
    rw [HAV.out, HBV.out] at hov
    have hans := answer_nv (w := w2) (a := some ⟨g2, 0, none⟩) (n := n' + m') (cap := n' + m') (f := o) ⟨Nat.le_refl _, hwr.rd, fun q hq => by cases hq; exact hwr.1, hol, by omega⟩
    rw [hov] at hans
    have HANS := Lib.hid hans; clear hans hwr hol hov hg2
    have HB3 := Lib.hid (HW1.out.trans (hb2.mono HW1.out.size)); clear hb2
    go_wp2_with fail
    refine HANS.out.mono ?_
    rintro e w4 ⟨v, rfl, h1, h2, h3⟩
    have HF : Hid (Ans (cdN (A * B)) (A * B) w (.returned (.tuple #[v, .int .i64 (cdN (A * B) : Nat)])) w4) := Lib.hid (Ans.later ⟨v, rfl, h1, h2, h3⟩ HB3.out)
    clear h1 h2 h3
    go_wp2
    go_ret2
    exact HF.out
  · clear hc
    rw [if_neg h0]
    have e0 : ((c : Int) != 0) = true := by simp [h0]
    have H0 := Lib.hid h0; clear h0 hav hbv ha hb
    have HW1 := Lib.hid hw1; clear hw1
    go_enter Try.func19, Try.ntmps19
    go_wp2_with fail
    refine HC.out.mono ?_
    rintro e w' ⟨rfl, rfl⟩
    go_wp2
    go_ret2
    exact Ans.err H0.out HW1.out
end Go.Proofs.Ytgegkffigjogcaa

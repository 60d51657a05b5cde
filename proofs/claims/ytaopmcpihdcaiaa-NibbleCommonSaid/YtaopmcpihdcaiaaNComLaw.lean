/- bailiwicklaw13.NibbleCommon answers true, whatever the bytes. -/
import Derived.Test.YtaopmcpihdcaiaaNLiv
namespace Go.Proofs.Ytaopmcpihdcaiaa
open Go.RowKit

set_option maxRecDepth 100000 in
set_option maxHeartbeats 4000000 in
theorem ncommon {n m : Nat} {f g : Nat → Nat} {u v : Value} {w : World} (hn : n ≤ 140737488355328) (hm : m ≤ 140737488355328) (hP : ArgB w u n f) (hR : ArgB w v m g) : Calls Try.prog 5 #[u, v] w fun e w' => e = .returned (.bool true) ∧ Below w.heap.size w w' := by
  have hb0 : Below w.heap.size w (w.alloc (.cells #[] 5)) := by go_grown
  obtain ⟨g1, c1, w1, hr1, hc1, hg1, -, hd1, hb1⟩ := copied (w := w.alloc (.cells #[] 5)) (D := w.heap.size) (by simp) (hP.below hb0) hn
  have hB1 := hb0.trans (hb1.mono hb0.size)
  have hb2 : Below w1.heap.size w1 (w1.alloc (.cells #[] 5)) := by go_grown
  have hB2 := hB1.trans (hb2.mono hB1.size)
  obtain ⟨g2, c2, w2, hr2, hc2, hg2, -, hd2, hb3⟩ := copied (w := w1.alloc (.cells #[] 5)) (D := w1.heap.size) (by simp) (hR.below hB2) hm
  have hB3 := hB2.trans (hb3.mono hB2.size)
  have hA1 : ArgB w2 (.slice (some ⟨g1, 0, none⟩) n c1) n f := (show ArgB w1 (.slice (some ⟨g1, 0, none⟩) n c1) n f from ⟨_, _, rfl, hc1, (fun h => by cases h), .inr ⟨g1, 0, rfl, hg1, hd1⟩⟩).below (hb2.trans (hb3.mono hb2.size))
  have hA2 : ArgB w2 (.slice (some ⟨g2, 0, none⟩) m c2) m g := ⟨_, _, rfl, hc2, (fun h => by cases h), .inr ⟨g2, 0, rfl, hg2, hd2⟩⟩
  have HC := Lib.hid (common_any hn hm hA1 hA2)
  have HB := Lib.hid hB3
  have HR1 := Lib.hid hr1
  have HR2 := Lib.hid hr2
  have HU := Lib.hid hP
  have HV := Lib.hid hR
  obtain ⟨a, cap, rfl, hca, -, -⟩ := hP
  obtain ⟨b, cap2, rfl, hcb, -, -⟩ := hR
  clear hb0 hr1 hc1 hg1 hd1 hb1 hB1 hb2 hB2 hr2 hc2 hg2 hd2 hb3 hB3 hA1 hA2
  go_enter Try.func5, Try.ntmps5
  go_wp2_with (first | (at_builtin; refine Go.Lib.wpList_append_run _ rfl _ _ 22 22 rfl _ _ rfl rfl _ _ HR1.out ?_; clear HR1) | (at_builtin; refine Go.Lib.wpList_append_run _ rfl _ _ 22 22 rfl _ _ rfl rfl _ _ HR2.out ?_; clear HR2) | (go_at_call 15; refine HC.out.mono ?_; rintro e w3 ⟨c, rfl, hA, hb⟩; have H3 := Lib.hid (And.intro hA (HB.out.trans (hb.mono HB.out.size))); clear hA hb HC))
  have hcn := H3.out.1.1
  have hcm := H3.out.1.2.1
  have hc0 : ¬ (c : Int) < 0 := by omega
  have hcn' : ¬ (n : Int) < c := by omega
  have hcm' : ¬ (m : Int) < c := by omega
  obtain ⟨a1, h10, h12⟩ := arg_to (a := a) (n := n) (cap := cap) hcn hca
  obtain ⟨b1, k10, k12⟩ := arg_to (a := b) (n := m) (cap := cap2) hcm hcb
  have hS1 := h12 w3 f (HU.out.below H3.out.2)
  have hS2 := k12 w3 g (HV.out.below H3.out.2)
  obtain ⟨s, hs⟩ : ∃ s, strB c f = s := ⟨_, rfl⟩
  have cv1 : ∀ k, (convert 22 9 (.slice a1 c cap)).run Try.prog (w3.drewN k) = .ok (.string s) (w3.drewN k) := fun k => by
    rw [← hs]
    exact str_run (w := w3.drewN k) hS1
  have cv2 : ∀ k, (convert 22 9 (.slice b1 c cap2)).run Try.prog (w3.drewN k) = .ok (.string s) (w3.drewN k) := fun k => by
    rw [← hs, strB_congr H3.out.1.2.2.1]
    exact str_run (w := w3.drewN k) hS2
  clear h12 k12 hS1 hS2 hs
  go_quiet (fail)
  go_wp2_with fail
  have HW := Lib.hid (below_drewN (k := nq) H3.out.2)
  obtain ⟨w4, hw4⟩ : ∃ w4, w3.drewN nq = w4 := ⟨_, rfl⟩
  rw [hw4] at HW ⊢
  clear hw4 cv1 cv2 hcn' hcm' hc0 h10 k10
  by_cases h1 : c = n
  · have h1' : ((c : Int) == (n : Int)) = true := by simp; omega
    clear h1
    refine region_quiet_tail 22 (fun w' => ∃ k, w' = w4.drewN k) (by kernel_rfl) (by kernel_rfl) ⟨1, rfl⟩ ?_
    simp only [List.take_succ_cons, List.take_zero, List.drop_succ_cons, List.drop_zero]
    repeat (go_big_quiet_step (fail))
    refine wpQuiet_nil ?_
    rintro _ ⟨nr, rfl⟩
    have HL := Lib.hid (lives_any (w4.drewN nr))
    go_wp2_with (go_at_call 10; refine HL.out.mono ?_; rintro e w5 ⟨rfl, hb⟩; have H4 := Lib.hid hb; clear hb)
    go_ret
    have hb4 := below_drewN (k := nr) HW.out
    exact ⟨rfl, hb4.trans (H4.out.mono hb4.size)⟩
  · have h1' : ((c : Int) == (n : Int)) = false := by simp; omega
    by_cases h2 : c = m
    · have h2' : ((c : Int) == (m : Int)) = true := by simp; omega
      clear h1 h2
      refine region_quiet_tail 22 (fun w' => ∃ k, w' = w4.drewN k) (by kernel_rfl) (by kernel_rfl) ⟨1, rfl⟩ ?_
      simp only [List.take_succ_cons, List.take_zero, List.drop_succ_cons, List.drop_zero]
      repeat (go_big_quiet_step (fail))
      refine wpQuiet_nil ?_
      rintro _ ⟨nr, rfl⟩
      have HL := Lib.hid (lives_any (w4.drewN nr))
      go_wp2_with (go_at_call 10; refine HL.out.mono ?_; rintro e w5 ⟨rfl, hb⟩; have H4 := Lib.hid hb; clear hb)
      go_ret
      have hb4 := below_drewN (k := nr) HW.out
      exact ⟨rfl, hb4.trans (H4.out.mono hb4.size)⟩
    · have h2' : ((c : Int) == (m : Int)) = false := by simp; omega
      have h3 : f c ≠ g c := by
        rcases H3.out.1.2.2.2 with h | h | h
        · exact absurd h h1
        · exact absurd h h2
        · exact h
      obtain ⟨x, hx⟩ : ∃ x, f c = x := ⟨_, rfl⟩
      obtain ⟨y, hy⟩ : ∃ y, g c = y := ⟨_, rfl⟩
      have hxy : ((x : Int) != (y : Int)) = true := by rw [hx, hy] at h3; simp; omega
      obtain ⟨a2, q2, e, -, -, hra⟩ := HU.out.below HW.out
      obtain ⟨p, hix, -, hpc⟩ := hra.at_ q2 c (by omega)
      injection e with e1 e2 e3
      subst e1 e3
      obtain ⟨b2, q3, e, -, -, hrb⟩ := HV.out.below HW.out
      obtain ⟨q, hiy, -, hqc⟩ := hrb.at_ q3 c (by omega)
      injection e with e1 e2 e3
      subst e1 e3
      rw [hx] at hpc
      rw [hy] at hqc
      clear h1 h2 h3 hx hy hra hrb
      refine region_quiet_tail 22 (fun w' => ∃ k, w' = w4.drewN k) (by kernel_rfl) (by kernel_rfl) ⟨1, rfl⟩ ?_
      simp only [List.take_succ_cons, List.take_zero, List.drop_succ_cons, List.drop_zero]
      repeat (go_big_quiet_step (fail))
      refine wpQuiet_nil ?_
      rintro _ ⟨nr, rfl⟩
      have HL := Lib.hid (lives_any (w4.drewN nr))
      go_wp2_with (go_at_call 10; refine HL.out.mono ?_; rintro e w5 ⟨rfl, hb⟩; have H4 := Lib.hid hb; clear hb)
      go_ret
      have hb4 := below_drewN (k := nr) HW.out
      exact ⟨rfl, hb4.trans (H4.out.mono hb4.size)⟩
end Go.Proofs.Ytaopmcpihdcaiaa

/- The reference's Bytes: what it comes to. -/
import Derived.Test.YtaopmcpihdcaiaaNUnp
import Derived.Test.YtaopmcpihdcaiaaTail
namespace Go.Proofs.Ytaopmcpihdcaiaa
open Go.RowKit

theorem own8_set {base n g q x : Nat} {f : Nat → Nat} {w : World} (h : Own8 base f n (.slice (some ⟨g, 0, none⟩) n q) w) (hx : x < n) (z : Nat) : Own8 base (fun j => if j = x then z else f j) n (.slice (some ⟨g, 0, none⟩) n q) (w.setCell ⟨g, x, none⟩ (.int .u8 (z : Nat))) ∧ w.frozen? ⟨g, x, none⟩ = false := by
  rcases h.2 with ⟨h1, h2⟩ | ⟨g', cap, cur, h1, hb, hc, hnc, hm, hcs, ht⟩
  · cases h1
  · cases h1
    refine ⟨⟨by rw [p8_len, Nat.mul_one], .inr ⟨g, q, cur.setIfInBounds x (.int .u8 (z : Nat)), rfl, hb, heap_setCell_same _ _ _ _ _ _ hc, hnc, hm, by simpa using hcs, ?_⟩⟩, frozen_of_row _ _ _ _ _ hc⟩
    rw [Nat.mul_one] at ht ⊢
    apply List.ext_getElem?
    intro j
    have h3 := congrArg (·[j]?) ht
    simp only [List.getElem?_take] at h3 ⊢
    by_cases hj : j < n
    · simp only [hj, if_true] at h3 ⊢
      rw [p8_at _ _ _ hj] at h3 ⊢
      rw [Array.getElem?_toList] at h3 ⊢
      have hsz : j < cur.size := (Array.getElem?_eq_some_iff.1 h3).1
      by_cases e : j = x
      · subst e
        simp [hsz]
      · rw [Array.getElem?_setIfInBounds_ne (by omega), if_neg e]
        exact h3
    · simp [hj, p8]
/-- The bytes when k nibbles are in. -/
def rbf (f : Nat → Nat) (k j : Nat) : Nat := if 2 * j + 1 < k then f (2 * j) * 16 + f (2 * j + 1) else 16 * f (2 * j)
set_option maxRecDepth 100000 in
set_option maxHeartbeats 4000000 in
theorem rbytes_any {n : Nat} {f : Nat → Nat} {v : Value} {w : World} (hn : n ≤ 4000000) (hP : ArgB w v n f) : Calls Try.prog 8 #[v] w (BytesA w n f) := by
  have HP := Lib.hid hP
  obtain ⟨a, cap, rfl, hc, hn0, hr⟩ := hP
  clear hr hn0 hc
  have H0 := Lib.hid (show Own8 w.heap.size (rbf f 0) ((0 + 1) / 2) (.slice (some ⟨w.heap.size, 0, none⟩) ((0 + 1) / 2) 0) (w.alloc (.cells #[] 5)) ∧ Below w.heap.size w (w.alloc (.cells #[] 5)) from
    ⟨World.ownsRow_made (base := w.heap.size) (e := 5) (size := 1) w #[] 0 (by simp) (by decide) (by simp), by go_grown⟩)
  go_enter Try.func8, Try.ntmps8
  go_wp2_with fail
  go_loopw [4, 5] (fun ov iv wr => ∃ k d : Nat, k ≤ n ∧ (k + 1) / 2 = d ∧ iv = .int .i64 k ∧ (∃ g q, ov = .slice (some ⟨g, 0, none⟩) d q) ∧ Hid ((∀ j, j < k → f j ≤ 15) ∧ Own8 w.heap.size (rbf f k) d ov wr ∧ Below w.heap.size w wr)) (fun _ iv _ => n - (intOf iv).toNat)
  case atStart => exact ⟨0, 0, by omega, rfl, rfl, ⟨_, _, rfl⟩, Lib.hid ⟨fun j hj => by omega, H0.out.1, H0.out.2⟩⟩
  case round =>
    obtain ⟨k, d, hk, hd, rfl, ⟨g, q, rfl⟩, H⟩ := hrel
    clear H0
    have hbs : w.heap.size ≤ wr.heap.size := H.out.2.2.size
    have hk0 : (0 : Int) ≤ k := by omega
    by_cases hlt : k < n
    · have hlt' : (k : Int) < n := by omega
      have HPr := HP.out.below (H.out.2.2.mono (Nat.le_refl _))
      obtain ⟨a2, cap2, e, -, -, hr⟩ := HPr
      obtain ⟨p, hix, hpl, hpc⟩ := hr.at_ cap2 k hlt
      injection e with e1 e2 e3
      subst e1 e3
      obtain ⟨x, hx⟩ : ∃ x, f k = x := ⟨_, rfl⟩
      have HX := Lib.hid hx
      rw [hx] at hpc
      clear hr hx
      by_cases hb : 15 < x
      · have hb' : (15 : Int) < x := by omega
        have HK := Lib.hid (show okN n f = false by
          have e : fitB n f = false := by
            unfold fitB
            rw [decide_eq_false_iff_not]
            intro h
            have := h k hlt
            have := HX.out
            omega
          simp [okN, e])
        clear hb
        go_wp2_with fail
        go_ret2
        exact ⟨.inr ⟨HK.out, rfl⟩, H.out.2.2⟩
      · have hb' : ¬ (15 : Int) < x := by omega
        have HL := Lib.hid (show ∀ j, j < k + 1 → f j ≤ 15 from fun j hj => by
          by_cases h : j < k
          · exact H.out.1 j h
          · obtain rfl : j = k := by omega
            rw [HX.out]
            omega)
        obtain ⟨y, hy⟩ : ∃ y, 16 * x = y := ⟨_, rfl⟩
        have hy1 : (16 : Int) * x = (y : Int) := by omega
        have hy2 : IntKind.u8.wrap (y : Int) = (y : Int) := by rw [IntKind.wrap_u8]; omega
        by_cases hev : k % 2 = 0
        · have hev' : ((k : Int) % 2 == 0) = true := by simp; omega
          obtain ⟨v', w', hrun, hown, hs, hbl⟩ := app_own H.out.2.1 hbs [y] (by simp; omega) (by simp)
          have hd2 : (k + 1 + 1) / 2 = d + 1 := by omega
          have HQ := Lib.hid (show (∀ j, j < k + 1 → f j ≤ 15) ∧ Own8 w.heap.size (rbf f (k + 1)) (d + 1) v' w' ∧ Below w.heap.size w w' from by
            refine ⟨HL.out, own8_congr hown fun j hj => ?_, H.out.2.2.trans (hbl.mono (Nat.le_refl _))⟩
            unfold putL rbf
            by_cases h : j < d
            · rw [if_pos h, if_pos (by omega), if_pos (by omega)]
            · obtain rfl : j = d := by have : j < d + 1 := hj; omega
              have e2 : 2 * j = k := by omega
              simp [e2, HX.out, hy])
          have HR := Lib.hid hrun
          obtain ⟨g2, q2, rfl⟩ := hs
          clear hrun hown hbl hy hev hb
          go_wp2_with (at_builtin; refine Go.Lib.wpList_append_run _ rfl _ _ 22 22 rfl _ _ rfl rfl _ _ HR.out ?_)
          go_roundw
          case rel => exact ⟨k + 1, d + 1, by omega, hd2, by go_num, ⟨_, _, rfl⟩, HQ⟩
          case measure => simp [intOf]; omega
        · have hev' : ((k : Int) % 2 == 0) = false := by simp; omega
          obtain ⟨c, hc⟩ : ∃ c, k / 2 = c := ⟨_, rfl⟩
          have hc1 : (k : Int) / 2 = (c : Int) := by omega
          have hc0 : (0 : Int) ≤ c := by omega
          have hcw : IntKind.i64.wrap (c : Int) = (c : Int) := by rw [IntKind.wrap_i64]; omega
          have hcd : c < d := by omega
          have hcd' : (c : Int) < d := by omega
          have hd2 : (k + 1 + 1) / 2 = d := by omega
          have cc := own_at H.out.2.1 c hcd
          obtain ⟨z, hz⟩ : ∃ z, rbf f k c = z := ⟨_, rfl⟩
          rw [hz] at cc
          have hz1 : z ≤ 240 := by
            rw [← hz]
            unfold rbf
            have := H.out.1 (2 * c) (by omega)
            rw [if_neg (by omega)]
            omega
          obtain ⟨s, hs⟩ : ∃ s, z + x = s := ⟨_, rfl⟩
          have hs1 : (z : Int) + x = (s : Int) := by omega
          have hs2 : IntKind.u8.wrap (s : Int) = (s : Int) := by rw [IntKind.wrap_u8]; omega
          obtain ⟨HS1, HS2⟩ := own8_set H.out.2.1 hcd s
          have HQ := Lib.hid (show ∀ nq, (∀ j, j < k + 1 → f j ≤ 15) ∧ Own8 w.heap.size (rbf f (k + 1)) d (.slice (some ⟨g, 0, none⟩) d q) ((wr.drewN nq).setCell ⟨g, c, none⟩ (.int .u8 (s : Nat))) ∧ Below w.heap.size w ((wr.drewN nq).setCell ⟨g, c, none⟩ (.int .u8 (s : Nat))) from fun nq => by
            refine ⟨HL.out, ?_, (below_drewN H.out.2.2).setCell (p := ⟨g, c, none⟩) (H.out.2.1.lt g rfl).1 _⟩
            have e : Own8 w.heap.size (rbf f (k + 1)) d (.slice (some ⟨g, 0, none⟩) d q) (wr.setCell ⟨g, c, none⟩ (.int .u8 (s : Nat))) := own8_congr HS1 fun j hj => by
              show (if j = c then s else rbf f k j) = rbf f (k + 1) j
              by_cases h : j = c
              · subst h
                rw [if_pos rfl, ← hs, ← hz]
                unfold rbf
                rw [if_neg (by omega), if_pos (by omega), show 2 * j + 1 = k by omega, HX.out]
                omega
              · rw [if_neg h]
                unfold rbf
                by_cases h2 : 2 * j + 1 < k
                · rw [if_pos h2, if_pos (by omega)]
                · rw [if_neg h2, if_neg (by omega)]
            exact e)
          clear hz hs hy hev hb HS1
          go_wp2_with fail
          refine region_quiet_tail 14 (fun w' => ∃ n, w' = wr.drewN n) (by kernel_rfl) (by kernel_rfl) ⟨1, rfl⟩ ?_
          simp only [List.take_succ_cons, List.take_zero, List.drop_succ_cons, List.drop_zero]
          repeat (quiet_step (fail))
          refine wpQuiet_nil ?_
          rintro _ ⟨nq, rfl⟩
          go_wp2_with fail
          go_roundw
          case rel => exact ⟨k + 1, d, by omega, hd2, by go_num, ⟨_, _, rfl⟩, HQ.out nq⟩
          case measure => simp [intOf]; omega
    · obtain rfl : k = n := by omega
      have hlt' : ¬ (k : Int) < k := by omega
      have HFit := Lib.hid (show fitB k f = true from by
        unfold fitB
        rw [decide_eq_true_iff]
        exact H.out.1)
      by_cases hev : k % 2 = 1
      · have hev' : ((k : Int) % 2 == 1) = true := by simp; omega
        have HK := Lib.hid (show okN k f = false by simp [okN]; intro h; omega)
        clear hev
        go_wp2_with fail
        go_ret2
        exact ⟨.inr ⟨HK.out, rfl⟩, H.out.2.2⟩
      · have hev' : ((k : Int) % 2 == 1) = false := by simp; omega
        have HK := Lib.hid (show okN k f = true by simp [okN, HFit.out]; omega)
        have HD := Lib.hid (show d = k / 2 by omega)
        have HE := Lib.hid (show k % 2 = 0 by omega)
        clear hev
        go_wp2_with fail
        go_ret2
        refine ⟨.inl ⟨HK.out, _, rfl, ?_⟩, H.out.2.2⟩
        rw [← HD.out]
        refine own_arg (own8_congr H.out.2.1 fun j hj => ?_)
        unfold rbf jn
        have := HD.out
        have := HE.out
        rw [if_pos (by omega)]
end Go.Proofs.Ytaopmcpihdcaiaa

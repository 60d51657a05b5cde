/- bailiwicklaw06.BlakeCalls answers true, whatever the bytes, up to a size. -/
import Derived.Test.YtoeomlmnejhgpaaDoorBRCall
import Derived.Test.YtoeomlmnejhgpaaDoorBLiv
import Derived.Laws.BytesArg
import Derived.Deep.DeepCutAuto
namespace Go.Proofs.YtoeomlmnejhgpaaDoor
open Go.RowKit
set_option maxRecDepth 100000 in
theorem jb_str {w : World} {g c : Nat} {f : Nat → Nat} (h : ArgB w (.slice (some ⟨g, 0, none⟩) 64 c) 64 f) : (convert 22 9 (.slice (some ⟨g, 0, none⟩) 64 c)).run Tryd.prog w = .ok (.string (strOfNums ((List.range 64).map fun j => ((f j : Nat) : Int)))) w := by
  obtain ⟨a, cap, e, -, -, hr⟩ := h
  injection e with e1 e2 e3
  subst e1
  rcases hr with h0 | ⟨b, o, e4, h1, h2⟩
  · omega
  · injection e4 with e4
    injection e4 with e5 e6
    subst e5
    subst e6
    refine run_convert_bytes_arg (P := Tryd.prog) w 22 5 Tryd.underlying22 Tryd.underlying5 g 0 64 c _ (by simp) (fun i hi => ?_) 9 Tryd.underlying9
    rw [h2 i hi]
    simp [hi]
theorem nil_str (w : World) : (convert 22 9 (.slice none 0 0)).run Tryd.prog w = .ok (.string ByteArray.empty) w := run_convert_bytes_nil (P := Tryd.prog) w 22 5 Tryd.underlying22 Tryd.underlying5 0 0 9 Tryd.underlying9
/-- What the law makes of 213 bytes. -/
def cut8 (f : Nat → Nat) (j : Nat) : Nat := if j < 2 then 0 else if j = 2 then f 2 % 8 else f j
theorem cut8_lt {f : Nat → Nat} (hf : ∀ j, f j < 256) (j : Nat) : cut8 f j < 256 := by
  have := hf j
  unfold cut8
  split
  · omega
  · split <;> omega
theorem cut8_last (f : Nat → Nat) : cut8 f 212 = f 212 := by unfold cut8; rw [if_neg (by omega), if_neg (by omega)]
/-- The bytes copied. -/
theorem copied {w : World} {v : Value} {n : Nat} {f : Nat → Nat} (h : ArgB w v n f) (hn : n < 1048577) : ∃ g c w', (Builtin.append_ #[22, 22] 22 #[.slice (some ⟨w.heap.size, 0, none⟩) 0 0, v]).run Tryd.prog (w.alloc (.cells #[] 5)) = .ok (.slice (some ⟨g, 0, none⟩) n c) w' ∧ ArgB w' (.slice (some ⟨g, 0, none⟩) n c) n f ∧ w.heap.size ≤ g ∧ Below w.heap.size w w' := by
  have hmade := World.ownsRow_made (base := w.heap.size) (e := 5) (size := 1) w #[] 0 (by simp) (by decide) (by simp)
  have ha : Below w.heap.size w (w.alloc (.cells #[] 5)) := (Below.refl _ _).alloc (Nat.le_refl _) _
  obtain ⟨v', w', hr, hown, ⟨g, c, hs⟩, hg⟩ := copy_own (k := 0) (g := fun _ => 0) (by simpa [p8] using hmade) ⟨_, _, rfl⟩ (h.below ha) (by omega) (by simp) 22
  rw [Nat.zero_add] at hown hs
  subst hs
  have ho : Own8 w.heap.size f n (.slice (some ⟨g, 0, none⟩) n c) w' := by simpa [Own8, p8] using hown
  exact ⟨g, c, w', hr, own_arg ho, (ho.lt g rfl).1, ha.grown hg (by simp) (fun j hj => by cases hj; exact Nat.le_refl _)⟩
/-- Two of one's own and all but two behind them, the third cut. -/
theorem mended {w : World} {g o cap : Nat} {f : Nat → Nat} (h : ArgB w (.slice (some ⟨g, o, none⟩) 213 cap) 213 f) (hcap : 213 ≤ cap) : ∃ g2 c w', (Builtin.append_ #[22, 22] 22 #[.slice (some ⟨w.heap.size, 0, none⟩) 2 2, .slice (some ⟨g, o + 2, none⟩) 211 (cap - 2)]).run Tryd.prog (w.alloc (.cells #[.int .u8 0, .int .u8 0] 5)) = .ok (.slice (some ⟨g2, 0, none⟩) 213 c) w' ∧ 213 ≤ c ∧ w.heap.size ≤ g2 ∧ g2 < w'.heap.size ∧ w'.cell? ⟨g2, 2, none⟩ = some (.int .u8 (f 2 : Nat)) ∧ w'.frozen? ⟨g2, 2, none⟩ = false ∧ ArgB (w'.setCell ⟨g2, 2, none⟩ (.int .u8 (f 2 % 8 : Nat))) (.slice (some ⟨g2, 0, none⟩) 213 c) 213 (cut8 f) ∧ Below w.heap.size w w' := by
  have ha : Below w.heap.size w (w.alloc (.cells #[.int .u8 0, .int .u8 0] 5)) := (Below.refl _ _).alloc (Nat.le_refl _) _
  have hmade : (w.alloc (.cells #[.int .u8 0, .int .u8 0] 5)).ownsRow w.heap.size 5 1 (.slice (some ⟨w.heap.size, 0, none⟩) 2 2) 2 (p8 (fun _ => 0) 2) :=
    ⟨by simp [p8], .inr ⟨w.heap.size, 2, #[.int .u8 0, .int .u8 0], rfl, Nat.le_refl _, heap_alloc_new w _, Nat.le_refl _, by decide, by simp, by simp [p8, List.range_succ]⟩⟩
  have h2 : ArgB w (.slice (some ⟨g, o + 2, none⟩) 211 (cap - 2)) 211 (fun j => f (j + 2)) := by
    obtain ⟨a, cp, e, h1, h3, hr⟩ := h
    injection e with e1 e2 e3
    subst e1
    rcases hr with h0 | ⟨b, q, e4, h5, h6⟩
    · omega
    · injection e4 with e4
      injection e4 with e5 e7
      subst e5
      subst e7
      exact ⟨_, _, rfl, by omega, (fun h => nomatch h), .inr ⟨g, o + 2, rfl, h5, fun j hj => by rw [show o + 2 + j = o + (j + 2) by omega]; exact h6 (j + 2) (by omega)⟩⟩
  obtain ⟨v', w', hr, hown, ⟨g2, c, hs⟩, hg⟩ := copy_own (k := 2) (g := fun _ => 0) hmade ⟨_, _, rfl⟩ (h2.below ha) (by omega) (by simp) 22
  have e213 : 2 + 211 = 213 := rfl
  rw [e213] at hs hown
  subst hs
  obtain ⟨f', hf'⟩ : ∃ f' : Nat → Nat, f' = fun j => if j < 2 then 0 else f j := ⟨_, rfl⟩
  have hp : p8 (fun _ => 0) 2 ++ p8 (fun j => f (j + 2)) 211 = p8 f' 213 := by
    rw [hf']
    apply List.ext_getElem?
    intro j
    by_cases hj : j < 2
    · rw [List.getElem?_append_left (by simp [p8]; omega), p8_at _ _ _ hj, p8_at _ _ _ (by omega), if_pos hj]
    · rw [List.getElem?_append_right (by simp [p8]; omega)]
      by_cases hj2 : j < 213
      · rw [show (p8 (fun _ => 0) 2).length = 2 by simp [p8], p8_at _ _ _ (by omega), p8_at _ _ _ hj2, if_neg hj, show j - 2 + 2 = j by omega]
      · rw [List.getElem?_eq_none (by simp [p8]; omega), List.getElem?_eq_none (by simp [p8]; omega)]
  rw [hp] at hown
  have hc := fun j (hj : j < 213) => (hown.cellAt j (by omega)).trans (p8_at f' 213 j hj)
  have hlt := hown.lt g2 rfl
  have hcc : 213 ≤ c := by
    obtain ⟨a, cp, e, h1, -⟩ := own_arg hown
    injection e with e1 e2 e3
    omega
  have c2 := hc 2 (by omega)
  simp only [hf'] at c2 hc
  refine ⟨g2, c, w', hr, hcc, hlt.1, hlt.2, c2, hown.frozenAt 2, ⟨_, _, rfl, hcc, (fun h => nomatch h), .inr ⟨g2, 0, rfl, by simpa using hlt.2, fun j hj => ?_⟩⟩, ha.grown hg (by simp) (fun j hj => by cases hj; exact Nat.le_refl _)⟩
  rw [Nat.zero_add]
  unfold cut8
  by_cases e : j = 2
  · subst e
    rw [World.cell?_setCell_same _ _ _ c2, if_neg (by omega), if_pos rfl]
  · rw [World.cell?_setCell_other _ _ _ _ (by intro e2; injection e2 with _ e3; exact e e3.symm), hc j hj]
    by_cases e2 : j < 2
    · rw [if_pos e2, if_pos e2]
    · rw [if_neg e2, if_neg e2, if_neg e]
set_option maxRecDepth 100000 in
set_option maxHeartbeats 4000000 in
theorem bcalls_any {n : Nat} {f : Nat → Nat} {v : Value} {w : World} (hn : n < 1048577) (hf : ∀ j, f j < 256) (hT : Plc w) (hP : ArgB w v n f) : Calls Tryd.prog 12 #[v] w fun e w' => e = .returned (.bool true) ∧ Below w.heap.size w w' := by
  have HP := Lib.hid hP
  have HT := Lib.hid hT
  have HF := Lib.hid hf
  have hnil := nil_str
  have heq0 : ∀ w, (binOp BinOp.eql 9 (.string ByteArray.empty) (.string ByteArray.empty)).run Tryd.prog w = .ok (.bool true) w := fun w => by kernel_rfl
  have LV := Lib.hid (fun wx (h : Below w.heap.size w wx) => blives_any wx (hT.below h))
  clear hT hf
  by_cases hl : n = 213
  · subst hl
    obtain ⟨ad, cap, rfl, hc, hnn, hr⟩ := hP
    obtain ⟨g, o, rfl⟩ : ∃ g o, ad = some ⟨g, o, none⟩ := by
      rcases hr with h0 | ⟨b, q, e, -⟩
      · omega
      · exact ⟨b, q, e⟩
    clear hr hnn hn
    obtain ⟨g2, c, w1, hr1, hcc, hg2, hgl, c2, f2, hA, hb1⟩ := mended HP.out hc
    have hsl := fun w => sl_l (g := g) (o := o) (L := 213) (cap := cap) (l := 2) (by omega) (by omega) w
    have hf2 := HF.out 2
    obtain ⟨x, hx⟩ : ∃ x, f 2 = x := ⟨_, rfl⟩
    rw [hx] at c2 hA hf2
    obtain ⟨y, hy⟩ : ∃ y : Nat, x % 8 = y := ⟨_, rfl⟩
    rw [hy] at hA
    have hx0 : (0 : Int) ≤ x := by omega
    have hm1 : (x : Int).tmod 8 = (y : Int) := by rw [Int.tmod_eq_emod_of_nonneg hx0]; omega
    have hm2 : (x : Int) % 8 = (y : Int) := by omega
    have HR1 := Lib.hid hr1
    have HA := Lib.hid (And.intro hA (And.intro hcc (And.intro hg2 hgl)))
    have HB1 := Lib.hid hb1
    have hc2 : (2 : Int) < 213 := by omega
    clear hr1 hA hb1 hx hcc hg2 hgl hy
    go_enter Tryd.func12, Tryd.ntmps12
    go_upto_region 4 with (at_builtin; refine Go.Lib.wpList_append_run _ rfl _ _ 22 22 rfl _ _ rfl rfl _ _ HR1.out ?_)
    obtain ⟨w2, hw2⟩ : ∃ w2, w1.setCell ⟨g2, 2, none⟩ (.int .u8 (y : Nat)) = w2 := ⟨_, rfl⟩
    have HB2 := Lib.hid (show Below w.heap.size w w2 from by rw [← hw2]; exact HB1.out.setCell (by exact HA.out.2.2.1) _)
    rw [hw2] at HA ⊢
    have hgl2 : g2 < w2.heap.size := by rw [← hw2]; simpa using HA.out.2.2.2
    have HH := Lib.hid hgl2
    clear hw2 hgl2 HB1 HR1 c2 f2 hsl
    obtain ⟨g3, c3, w3, hr3, hA3, hg3, hb3⟩ := copied HA.out.1 (by omega)
    have HR3 := Lib.hid hr3
    have HA3 := Lib.hid hA3
    have HB3 := Lib.hid (HB2.out.trans (hb3.mono HB2.out.size))
    have HAA := Lib.hid (HA.out.1.below hb3)
    clear hr3 hA3 hg3 hb3
    obtain ⟨cc3, rd3, hl3⟩ : 213 ≤ c3 ∧ (∀ j, j < 213 → w3.cell? ⟨g3, 0 + j, none⟩ = some (.int .u8 (cut8 f j : Nat))) ∧ g3 < w3.heap.size := by
      obtain ⟨a, cp, e, h1, -, hr⟩ := HA3.out
      injection e with e1 e2 e3
      subst e1
      subst e3
      rcases hr with h0 | ⟨b, q, e4, h5, h6⟩
      · omega
      · injection e4 with e4
        injection e4 with e5 e7
        subst e5
        subst e7
        exact ⟨h1, h6, h5⟩
    have HRR := Lib.hid (fun wx (hb : Below w3.heap.size w3 wx) => show 213 ≤ c ∧ g2 < wx.heap.size ∧ ∀ j, j < 213 → wx.cell? ⟨g2, 0 + j, none⟩ = some (.int .u8 (cut8 f j : Nat)) from by
      obtain ⟨a, cp, e, h1, -, hr⟩ := HAA.out.below hb
      injection e with e1 e2 e3
      subst e1
      subst e3
      rcases hr with h0 | ⟨b, q, e4, h5, h6⟩
      · omega
      · injection e4 with e4
        injection e4 with e5 e7
        subst e5
        subst e7
        exact ⟨h1, h5, h6⟩)
    have HCL := Lib.hid (And.intro cc3 (And.intro rd3 hl3))
    clear cc3 rd3 hl3 HP
    by_cases hla : f 212 ≤ 1
    · have h1 : cut8 f 212 ≤ 1 := by rw [cut8_last]; exact hla
      go_wp2_with (at_builtin; refine Go.Lib.wpList_append_run _ rfl _ _ 22 22 rfl _ _ rfl rfl _ _ HR3.out ?_)
      refine (call_any (cut8_lt HF.out) HCL.out.1 HCL.out.2.2 HCL.out.2.1 h1 (HT.out.below HB3.out)).mono ?_
      rintro e w4 ⟨va, rfl, hva, ⟨ga, rfl⟩, hb4⟩
      have HVA := Lib.hid hva
      have HB4 := Lib.hid (HB3.out.trans (hb4.mono HB3.out.size))
      have HD := Lib.hid (HRR.out w4 hb4)
      clear hva hb4
      go_wp2_with fail
      refine (rcall_any (cut8_lt HF.out) HD.out.1 HD.out.2.1 HD.out.2.2 h1).mono ?_
      rintro e w5 ⟨vb, rfl, hvb, ⟨gb, cb, rfl⟩, hb5⟩
      have r1 := jb_str (HVA.out.below hb5)
      have r2 := jb_str hvb
      obtain ⟨s, hs⟩ : ∃ s, strOfNums ((List.range 64).map fun j => ((jb (callV (cut8 f)) j : Nat) : Int)) = s := ⟨_, rfl⟩
      rw [hs] at r1 r2
      have heq : ∀ w, (binOp BinOp.eql 9 (.string s) (.string s)).run Tryd.prog w = .ok (.bool true) w := fun w => by go_simp
      have HB5 := Lib.hid (HB4.out.trans (hb5.mono HB4.out.size))
      clear hb5 hvb hs
      go_wp2_with fail
      refine (LV.out _ HB5.out).mono ?_
      rintro e w6 ⟨rfl, hb6⟩
      have HB6 := Lib.hid (HB5.out.trans (hb6.mono HB5.out.size))
      clear hb6 r1 r2
      go_wp2_with fail
      go_ret
      exact ⟨rfl, HB6.out⟩
    · have h1 : 1 < cut8 f 212 := by rw [cut8_last]; omega
      go_wp2_with (at_builtin; refine Go.Lib.wpList_append_run _ rfl _ _ 22 22 rfl _ _ rfl rfl _ _ HR3.out ?_)
      refine (call_last HCL.out.2.1 h1).mono ?_
      rintro e w4 ⟨rfl, hb4⟩
      have HB4 := Lib.hid (HB3.out.trans (hb4.mono HB3.out.size))
      have HD := Lib.hid (HRR.out w4 hb4)
      clear hb4
      go_wp2_with fail
      refine (rcall_last HD.out.2.2 h1).mono ?_
      rintro e w5 ⟨rfl, hb5⟩
      have HB5 := Lib.hid (HB4.out.trans (hb5.mono HB4.out.size))
      clear hb5
      go_wp2_with fail
      refine (LV.out _ HB5.out).mono ?_
      rintro e w6 ⟨rfl, hb6⟩
      have HB6 := Lib.hid (HB5.out.trans (hb6.mono HB5.out.size))
      clear hb6
      go_wp2_with fail
      go_ret
      exact ⟨rfl, HB6.out⟩
  · obtain ⟨g3, c3, w3, hr3, hA3, -, hb3⟩ := copied HP.out hn
    have HR3 := Lib.hid hr3
    have HA3 := Lib.hid hA3
    have HB3 := Lib.hid hb3
    have HAA := Lib.hid (HP.out.below hb3)
    obtain ⟨ad, cap, rfl, hc, -, -⟩ := hP
    have hl2 : ¬ (n : Int) = 213 := by omega
    have hl3 : ((n : Int) == 213) = false := by simpa using hl2
    clear hr3 hA3 hb3 HP
    go_enter Tryd.func12, Tryd.ntmps12
    go_wp2_with (at_builtin; refine Go.Lib.wpList_append_run _ rfl _ _ 22 22 rfl _ _ rfl rfl _ _ HR3.out ?_)
    refine (call_len hl HA3.out).mono ?_
    rintro e w4 ⟨rfl, hb4⟩
    have HB4 := Lib.hid (HB3.out.trans (hb4.mono HB3.out.size))
    have HD := Lib.hid (HAA.out.below hb4)
    clear hb4
    go_wp2_with fail
    refine (rcall_len hl HD.out).mono ?_
    rintro e w5 ⟨rfl, hb5⟩
    have HB5 := Lib.hid (HB4.out.trans (hb5.mono HB4.out.size))
    clear hb5
    go_wp2_with fail
    refine (LV.out _ HB5.out).mono ?_
    rintro e w6 ⟨rfl, hb6⟩
    have HB6 := Lib.hid (HB5.out.trans (hb6.mono HB5.out.size))
    clear hb6
    go_wp2_with fail
    go_ret
    exact ⟨rfl, HB6.out⟩
end Go.Proofs.YtoeomlmnejhgpaaDoor

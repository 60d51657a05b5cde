/- nibble.Pack: what it comes to. -/
import Derived.Test.YtaopmcpihdcaiaaNPackR
namespace Go.Proofs.Ytaopmcpihdcaiaa
open Go.RowKit

theorem ix_0 (b o n cap : Nat) (h : 0 < n) (w : World) : (Instr.indexAt 22 (.slice (some ⟨b, o, none⟩) n cap) (.int .i64 0)).run Try.prog w = .ok (.pointer (some ⟨b, o, none⟩)) w := by
  have h1 : (0 : Int) < n := by omega
  go_simp
def lf (l : Bool) : Nat := if l then 2 else 0
/-- A path's nibbles. -/
def pnib (n : Nat) (f : Nat → Nat) (l : Bool) (j : Nat) : Nat := if n % 2 = 0 then (if j = 0 then lf l else if j = 1 then 0 else f (j - 2)) else (if j = 0 then lf l + 1 else f (j - 1))
/-- What Pack answers. -/
def PackA (w : World) (n : Nat) (f : Nat → Nat) (l : Bool) (e : Ending) (w' : World) : Prop := ((fitB n f = true ∧ ∃ v, e = .returned (.tuple #[v, .int .i64 0]) ∧ ArgB w' v (1 + n / 2) (jn (pnib n f l))) ∨ (fitB n f = false ∧ e = .returned (.tuple #[.slice none 0 0, .int .i64 4]))) ∧ Below w.heap.size w w'
theorem pk_even {n m : Nat} (f g : Nat → Nat) (l : Bool) (hn : n = 2 * m) (hg : g 0 = lf l * 16) (j : Nat) : catF 1 g (jn f) j = jn (pnib n f l) j := by
  unfold catF jn pnib
  have h0 : n % 2 = 0 := by omega
  simp only [h0, if_true]
  by_cases h : j < 1
  · obtain rfl : j = 0 := by omega
    simp [hg]
  · rw [if_neg h, if_neg (by omega), if_neg (by omega), if_neg (by omega), if_neg (by omega), show 2 * (j - 1) = 2 * j - 2 by omega, show 2 * j - 2 + 1 = 2 * j + 1 - 2 by omega]
theorem pk_odd {n m : Nat} (f g : Nat → Nat) (l : Bool) (hn : n = 2 * m + 1) (hg : g 0 = (lf l + 1) * 16 + f 0) (j : Nat) : catF 1 g (jn fun i => f (1 + i)) j = jn (pnib n f l) j := by
  unfold catF jn pnib
  have h0 : ¬ n % 2 = 0 := by omega
  simp only [h0, if_false]
  by_cases h : j < 1
  · obtain rfl : j = 0 := by omega
    simp [hg]
  · rw [if_neg h, if_neg (by omega), if_neg (by omega), show 1 + 2 * (j - 1) = 2 * j - 1 by omega, show 1 + (2 * (j - 1) + 1) = 2 * j + 1 - 1 by omega]
set_option maxRecDepth 100000 in
set_option maxHeartbeats 4000000 in
theorem pack_any {n : Nat} {f : Nat → Nat} {v : Value} {l : Bool} {w : World} (hn : n ≤ 4000000) (hP : ArgB w v n f) : Calls Try.prog 11 #[v, .bool l] w (PackA w n f l) := by
  have HP := Lib.hid hP
  have HC := Lib.hid (fit_any (show n ≤ 140737488355328 by omega) hP)
  obtain ⟨a, cap, rfl, hc, hn0, hr⟩ := hP
  cases hfit : fitB n f with
  | false =>
    rw [hfit] at HC
    have HK := Lib.hid hfit
    clear hr hn0 hc hfit
    go_enter Try.func11, Try.ntmps11
    go_wp2_with (go_at_call 16; refine HC.out.mono ?_; rintro e w' ⟨rfl, rfl⟩)
    go_ret2
    exact ⟨.inr ⟨HK.out, rfl⟩, Below.refl _ _⟩
  | true =>
    rw [hfit] at HC
    have HK := Lib.hid hfit
    have HL := Lib.hid (fit_le hfit)
    clear hfit
    obtain ⟨m, hm⟩ : ∃ m, n / 2 = m := ⟨_, rfl⟩
    have hm1 : (n : Int) / 2 = (m : Int) := by omega
    have hm0 : (0 : Int) ≤ m := by omega
    obtain ⟨m1, hm2⟩ : ∃ m1, 1 + m = m1 := ⟨_, rfl⟩
    have hm3 : (1 : Int) + m = (m1 : Int) := by omega
    have hm4 : (0 : Int) ≤ m1 := by omega
    have hw1 : IntKind.i64.wrap (m1 : Int) = (m1 : Int) := by rw [IntKind.wrap_i64]; omega
    obtain ⟨i0, hi, hz0, hz1, hz2⟩ := info_partsB info8
    obtain ⟨c, hc0⟩ : ∃ c, lf l = c := ⟨_, rfl⟩
    have hc2 : c = 0 ∨ c = 2 := by unfold lf at hc0; cases l <;> simp at hc0 <;> omega
    by_cases hev : n % 2 = 0
    · have hev' : ((n : Int) % 2 == 0) = true := by simp; omega
      have HM := Lib.hid (show n = 2 * m by omega)
      clear hr hn0 hc hev
      cases l with
      | false =>
        obtain rfl : c = 0 := by simpa [lf] using hc0.symm
        have HE := Lib.hid hc0
        have HM1 := Lib.hid hm
        have HM2 := Lib.hid hm2
        clear hc0 hc2 hm hm2
        go_enter Try.func11, Try.ntmps11
        go_wp2_with (first | (go_at_call 16; refine HC.out.mono ?_; rintro e w' ⟨rfl, rfl⟩) | (at_make; refine wpList_make_own _ rfl _ _ 22 rfl w'.heap.size 5 i0 (.int .u8 0) 1 Try.underlying22 hi hz0 hz1 .i64 .i64 _ m1 rfl rfl rfl (by rw [hz2]; omega) (by unfold maxLen; omega) (Nat.le_refl _) ?_; intro w1 hown1 hgrow1; have H1 := Lib.hid (And.intro hown1 ((Below.refl w'.heap.size w').grown hgrow1 (by simp) (fun k hk => by cases hk))); clear hown1 hgrow1) | (at_builtin; obtain ⟨v2, w2, hrun, hown, ⟨g2, q2, rfl⟩, hg⟩ := app_ownV (xs := [0]) H1.out.1 H1.out.2.size (by simp) (by simp); have hg2 := (H1.out.2.alloc H1.out.2.size _).grown hg (by simp; have := H1.out.2.size; omega) (fun j hj => (H1.out.1.lt j hj).1); refine Go.Lib.wpList_append_run _ rfl _ _ 22 22 rfl _ _ rfl rfl _ _ hrun ?_; have H2 := Lib.hid (And.intro hown hg2); clear hrun hown hg hg2 H1) | (go_at_call 17; refine (join_any (w0 := w') (m := m) (k := 1) (g := fun _ => 0) (f := f) (by have := HM.out; omega) (by omega) (by rw [← HM.out]; exact HL.out) (by rw [← HM.out]; exact HP.out) H2.out.2 H2.out.1).mono ?_; rintro e w3 ⟨v3, rfl, ho3, hb3⟩; have H3 := Lib.hid (And.intro ho3 hb3); clear ho3 hb3 H2))
        go_ret2
        refine ⟨.inl ⟨HK.out, _, rfl, ?_⟩, H3.out.2⟩
        rw [HM1.out]
        exact own_arg (own8_congr H3.out.1 (fun j _ => pk_even (m := m) f (fun _ => 0) false HM.out rfl j))
      | true =>
        obtain rfl : c = 2 := by simpa [lf] using hc0.symm
        have HE := Lib.hid hc0
        have HM1 := Lib.hid hm
        have HM2 := Lib.hid hm2
        clear hc0 hc2 hm hm2
        go_enter Try.func11, Try.ntmps11
        go_wp2_with (first | (go_at_call 16; refine HC.out.mono ?_; rintro e w' ⟨rfl, rfl⟩) | (at_make; refine wpList_make_own _ rfl _ _ 22 rfl w'.heap.size 5 i0 (.int .u8 0) 1 Try.underlying22 hi hz0 hz1 .i64 .i64 _ m1 rfl rfl rfl (by rw [hz2]; omega) (by unfold maxLen; omega) (Nat.le_refl _) ?_; intro w1 hown1 hgrow1; have H1 := Lib.hid (And.intro hown1 ((Below.refl w'.heap.size w').grown hgrow1 (by simp) (fun k hk => by cases hk))); clear hown1 hgrow1) | (at_builtin; obtain ⟨v2, w2, hrun, hown, ⟨g2, q2, rfl⟩, hg⟩ := app_ownV (xs := [32]) H1.out.1 H1.out.2.size (by simp) (by simp); have hg2 := (H1.out.2.alloc H1.out.2.size _).grown hg (by simp; have := H1.out.2.size; omega) (fun j hj => (H1.out.1.lt j hj).1); refine Go.Lib.wpList_append_run _ rfl _ _ 22 22 rfl _ _ rfl rfl _ _ hrun ?_; have H2 := Lib.hid (And.intro hown hg2); clear hrun hown hg hg2 H1) | (go_at_call 17; refine (join_any (w0 := w') (m := m) (k := 1) (g := fun _ => 32) (f := f) (by have := HM.out; omega) (by omega) (by rw [← HM.out]; exact HL.out) (by rw [← HM.out]; exact HP.out) H2.out.2 H2.out.1).mono ?_; rintro e w3 ⟨v3, rfl, ho3, hb3⟩; have H3 := Lib.hid (And.intro ho3 hb3); clear ho3 hb3 H2))
        go_ret2
        refine ⟨.inl ⟨HK.out, _, rfl, ?_⟩, H3.out.2⟩
        rw [HM1.out]
        exact own_arg (own8_congr H3.out.1 (fun j _ => pk_even (m := m) f (fun _ => 32) true HM.out rfl j))
    · have hev' : ((n : Int) % 2 == 0) = false := by simp; omega
      have HM := Lib.hid (show n = 2 * m + 1 by omega)
      have HM0 : 0 < n := by omega
      rcases hr with h0 | ⟨b, o, rfl, hbl, hcell⟩
      · omega
      obtain ⟨x0, hx0⟩ : ∃ x0, f 0 = x0 := ⟨_, rfl⟩
      have HX0 := Lib.hid hx0
      have HX := Lib.hid (show b < w.heap.size ∧ w.cell? ⟨b, o, none⟩ = some (.int .u8 (x0 : Nat)) ∧ x0 ≤ 15 from ⟨hbl, by rw [← hx0]; exact hcell 0 HM0, by rw [← hx0]; exact HL.out 0 HM0⟩)
      obtain ⟨a1, h11, h12⟩ := arg_from (a := some ⟨b, o, none⟩) (n := n) (cap := cap) (m := 1) HM0 hc
      have HS : (∀ w, (Instr.sliceAt 22 (.slice (some ⟨b, o, none⟩) n cap) (some (.int .i64 1)) none none).run Try.prog w = .ok (.slice a1 (n - 1) (cap - 1)) w) ∧ ArgB w (.slice a1 (n - 1) (cap - 1)) (2 * m) (fun i => f (1 + i)) := ⟨h11, by
        have := h12 w f HP.out
        rw [show 2 * m = n - 1 by omega]
        exact this⟩
      clear hcell hbl h11 h12 hx0 hn0 hc hev
      cases l with
      | false =>
        obtain rfl : c = 0 := by simpa [lf] using hc0.symm
        have HE := Lib.hid hc0
        have HM1 := Lib.hid hm
        have HM2 := Lib.hid hm2
        clear hc0 hc2 hm hm2
        go_enter Try.func11, Try.ntmps11
        go_wp2_with (first | (go_at_call 16; refine HC.out.mono ?_; rintro e w' ⟨rfl, rfl⟩) | (at_make; refine wpList_make_own _ rfl _ _ 22 rfl w'.heap.size 5 i0 (.int .u8 0) 1 Try.underlying22 hi hz0 hz1 .i64 .i64 _ m1 rfl rfl rfl (by rw [hz2]; omega) (by unfold maxLen; omega) (Nat.le_refl _) ?_; intro w1 hown1 hgrow1; have H1 := Lib.hid (And.intro hown1 ((Below.refl w'.heap.size w').grown hgrow1 (by simp) (fun k hk => by cases hk))); clear hown1 hgrow1))
        obtain ⟨hrun1, hargs1⟩ := HS
        obtain ⟨v2, w2, hrun, hown, ⟨g2, q2, rfl⟩, hg⟩ := app_ownV (xs := [1 * 16 + x0]) H1.out.1.drew H1.out.2.drew.size (by simp) (by simp)
        have hg2 := (H1.out.2.drew.alloc H1.out.2.drew.size _).grown hg (by have := H1.out.2.drew.size; simp only [World.size_alloc]; omega) (fun j hj => (H1.out.1.lt j hj).1)
        have l6 : w1.drew.cell? ⟨b, o, none⟩ = some (.int .u8 (x0 : Nat)) := (H1.out.2.drew.cell (p := ⟨b, o, none⟩) HX.out.1).trans HX.out.2.1
        refine wp_region_any (by kernel_rfl) ?_
        refine any_ops (ops' := ((Try.f11.body.bind (regRF 9)).getD #[])) (by kernel_rfl) ?_
        refine pack_r (c1 := 1) (c2 := 1 * 16) (R := fun v3 w3 => Own8 w'.heap.size (catF 1 (fun _ => 1 * 16 + x0) (jn fun i => f (1 + i))) (1 + m) v3 w3 ∧ Below w'.heap.size w' w3) (fun w => by kernel_rfl) (fun w => by kernel_rfl) (fun w => ix_0 _ _ _ _ HM0 w) (load_b l6) (or_run 1 x0 (by omega) HX.out.2.2) hrun hrun1 ?_ (fun _ _ d _ _ h => by cases d <;> exact h) ?_
        · refine (join_any (w0 := w') (m := m) (k := 1) (g := fun _ => 1 * 16 + x0) (f := fun i => f (1 + i)) (by have := HM.out; omega) (by omega) (fun j hj => HL.out _ (by have := HM.out; omega)) hargs1 hg2 hown).mono ?_
          rintro e w3 ⟨v3, rfl, h3⟩
          exact ⟨v3, rfl, h3⟩
        · intro u28 u29 u30 u31 u32 u33 u34 u35 u36 u37 u38 u39 u40 v3 w3 h3
          have H3 := Lib.hid h3
          clear h3 hrun hown hg hg2 l6 H1 hrun1 hargs1
          go_wp2_with fail
          go_ret2
          refine ⟨.inl ⟨HK.out, _, rfl, ?_⟩, H3.out.2⟩
          rw [HM1.out]
          exact own_arg (own8_congr H3.out.1 (fun j _ => pk_odd (m := m) f (fun _ => 1 * 16 + x0) false HM.out (by rw [HX0.out]; rfl) j))
      | true =>
        obtain rfl : c = 2 := by simpa [lf] using hc0.symm
        have HE := Lib.hid hc0
        have HM1 := Lib.hid hm
        have HM2 := Lib.hid hm2
        clear hc0 hc2 hm hm2
        go_enter Try.func11, Try.ntmps11
        go_wp2_with (first | (go_at_call 16; refine HC.out.mono ?_; rintro e w' ⟨rfl, rfl⟩) | (at_make; refine wpList_make_own _ rfl _ _ 22 rfl w'.heap.size 5 i0 (.int .u8 0) 1 Try.underlying22 hi hz0 hz1 .i64 .i64 _ m1 rfl rfl rfl (by rw [hz2]; omega) (by unfold maxLen; omega) (Nat.le_refl _) ?_; intro w1 hown1 hgrow1; have H1 := Lib.hid (And.intro hown1 ((Below.refl w'.heap.size w').grown hgrow1 (by simp) (fun k hk => by cases hk))); clear hown1 hgrow1))
        obtain ⟨hrun1, hargs1⟩ := HS
        obtain ⟨v2, w2, hrun, hown, ⟨g2, q2, rfl⟩, hg⟩ := app_ownV (xs := [3 * 16 + x0]) H1.out.1.drew H1.out.2.drew.size (by simp) (by simp)
        have hg2 := (H1.out.2.drew.alloc H1.out.2.drew.size _).grown hg (by have := H1.out.2.drew.size; simp only [World.size_alloc]; omega) (fun j hj => (H1.out.1.lt j hj).1)
        have l6 : w1.drew.cell? ⟨b, o, none⟩ = some (.int .u8 (x0 : Nat)) := (H1.out.2.drew.cell (p := ⟨b, o, none⟩) HX.out.1).trans HX.out.2.1
        refine wp_region_any (by kernel_rfl) ?_
        refine any_ops (ops' := ((Try.f11.body.bind (regRF 9)).getD #[])) (by kernel_rfl) ?_
        refine pack_r (c1 := 3) (c2 := 3 * 16) (R := fun v3 w3 => Own8 w'.heap.size (catF 1 (fun _ => 3 * 16 + x0) (jn fun i => f (1 + i))) (1 + m) v3 w3 ∧ Below w'.heap.size w' w3) (fun w => by kernel_rfl) (fun w => by kernel_rfl) (fun w => ix_0 _ _ _ _ HM0 w) (load_b l6) (or_run 3 x0 (by omega) HX.out.2.2) hrun hrun1 ?_ (fun _ _ d _ _ h => by cases d <;> exact h) ?_
        · refine (join_any (w0 := w') (m := m) (k := 1) (g := fun _ => 3 * 16 + x0) (f := fun i => f (1 + i)) (by have := HM.out; omega) (by omega) (fun j hj => HL.out _ (by have := HM.out; omega)) hargs1 hg2 hown).mono ?_
          rintro e w3 ⟨v3, rfl, h3⟩
          exact ⟨v3, rfl, h3⟩
        · intro u28 u29 u30 u31 u32 u33 u34 u35 u36 u37 u38 u39 u40 v3 w3 h3
          have H3 := Lib.hid h3
          clear h3 hrun hown hg hg2 l6 H1 hrun1 hargs1
          go_wp2_with fail
          go_ret2
          refine ⟨.inl ⟨HK.out, _, rfl, ?_⟩, H3.out.2⟩
          rw [HM1.out]
          exact own_arg (own8_congr H3.out.1 (fun j _ => pk_odd (m := m) f (fun _ => 3 * 16 + x0) true HM.out (by rw [HX0.out]; rfl) j))
end Go.Proofs.Ytaopmcpihdcaiaa

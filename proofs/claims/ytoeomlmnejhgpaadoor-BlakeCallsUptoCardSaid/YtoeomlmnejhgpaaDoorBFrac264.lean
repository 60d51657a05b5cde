/- What bailiwickref04.Fraction comes to with 2 and 64. -/
import Derived.Test.YtoeomlmnejhgpaaDoorBFracN
namespace Go.Proofs.YtoeomlmnejhgpaaDoor
open Go.RowKit

set_option maxRecDepth 100000 in
set_option maxHeartbeats 4000000 in
-- WHAT Fraction COMES TO.
theorem frac_2_64 (p : Nat) (hp : p < 65536) (w : World) : Calls Tryd.prog 68 #[.int .u64 p, .int .i64 2, .int .i64 64] w fun e w' => e = .returned (.int .u64 ((frn p 2 64 % 65536 ^ 4 : Nat) : Int)) ∧ Below w.heap.size w w' := by
  obtain ⟨i0, hi, hz0, hz1, hz2⟩ := info_partsI info22
  have hG0 : p * 2 ^ (2 * 64) = vd (gdg p 8) (8 + 1) := by rw [vd_gdg]
  obtain ⟨F, hF⟩ : ∃ F, frn p 2 64 = F := ⟨_, rfl⟩
  have HF := Lib.hid hF
  rw [hF]
  clear hF
  obtain ⟨GN, hGN⟩ : ∃ GN, p * 2 ^ (2 * 64) = GN := ⟨_, rfl⟩
  have HG := Lib.hid (And.intro hG0 hGN)
  have HP := Lib.hid hp
  clear hG0 hGN hp
  go_enter Tryd.func68, Tryd.ntmps68
  go_wp2_with fail
  go_loopw [7, 8] (fun gv iv wr => ∃ k g c L : Nat, k ≤ 8 ∧ L = k + 1 ∧ iv = .int .i64 k ∧ gv = .slice (some ⟨g, 0, none⟩) L c ∧ Hid (w.heap.size ≤ g ∧ Dg wr g L (gdg p k) ∧ Below w.heap.size w wr)) (fun _ iv _ => 8 - (intOf iv).toNat)
  case atStart => exact ⟨0, _, _, 1, by omega, rfl, rfl, rfl, Lib.hid ⟨Nat.le_refl _, ⟨by simp, fun j hj => by obtain rfl : j = 0 := (by omega); exact (cell_of_row _ _ 0 _ _ _ (heap_alloc_new _ _)).trans rfl⟩, by go_grown⟩⟩
  case round =>
    obtain ⟨k, g, c, L, hk, rfl, rfl, rfl, H⟩ := hrel
    have hk0 : (0 : Int) ≤ k := by omega
    by_cases hlt : k < 8
    · have hlt' : (k : Int) < 8 := by omega
      have HEN := Lib.hid (fown_one wr)
      go_wp2_with (at_builtin; refine wpList_append_own _ rfl _ _ 71 rfl wr.heap.size 34 i0 (.int .u64 0) 1 8 Tryd.underlying71 hi hz0 hz1 hz2 rfl (by decide) _ _ _ rfl HEN.out ⟨g, 0, none⟩ (k + 1) c (dl (gdg p k) (k + 1)) rfl (by rw [dl_len, Nat.mul_one]) ?d1 ?d2 ?d3 ?d4 ?d5 ?_)
      try (case d1 => exact fnews_dl (H.out.2.1.below ((Below.refl wr.heap.size wr).alloc (Nat.le_refl _) (.cells #[.int .u64 0] 34))))
      try (case d2 => exact fone_dl _ _)
      try (case d3 => unfold maxLen; omega)
      try (case d4 => omega)
      try (case d5 => first | omega | (simp; done) | (simp; omega))
      intro v' w1 hown' hgrow _
      rw [dl_pre p k] at hown'
      obtain ⟨g', cap', rfl, hg', hcap', hdg', -⟩ := fown_dg hown' (by omega)
      have hbw : Below wr.heap.size wr w1 := ((Below.refl _ _).alloc (Nat.le_refl _) _).grown hgrow (by simp) (fun j hj => by cases hj; exact Nat.le_refl _)
      have hwr := H.out.2.2.size
      have HN := Lib.hid (And.intro (Nat.le_trans hwr hg') (And.intro hdg' (H.out.2.2.trans (hbw.mono hwr))))
      clear hown' hgrow hg' hdg' hbw HEN hwr
      go_wp2_with fail
      go_roundw
      case rel => exact ⟨k + 1, g', cap', 1 + (k + 1), by omega, by omega, by go_num, rfl, HN⟩
      case measure => simp [intOf]; omega
    · obtain rfl : k = 8 := by omega
      have hlt' : ¬ ((8 : Nat) : Int) < 8 := by omega
      clear hlt hlt' hk0
      go_wp2_with (at_make; refine wpList_make_full _ rfl _ _ 71 rfl w.heap.size 34 i0 (.int .u64 0) 1 Tryd.underlying71 hi hz0 hz1 .i64 .i64 _ _ 5 rfl rfl rfl rfl (by rw [hz2]; omega) (by unfold maxLen; omega) (H.out.2.2.size) ?_; intro w0 hown0 hgrow0)
      have hbel : Below wr.heap.size wr w0 := (Below.refl _ _).grown hgrow0 (Nat.le_refl _) (fun k hk => by cases hk)
      have hb0 : Below w.heap.size w w0 := H.out.2.2.trans (hbel.mono H.out.2.2.size)
      have hown1 : w0.ownsRow w.heap.size 34 1 (.slice (some ⟨wr.heap.size, 0, none⟩) 5 5) 5 (dl (fun _ => 0) 5) := by
        have h9 := hown0
        simp at h9
        have e : (madeCells (Value.int IntKind.u64 0).cells 5).toList = dl (fun _ => 0) 5 := by kernel_rfl
        rw [e] at h9
        exact h9
      obtain ⟨g0, c0, e0, hg0, -, hdg0, -⟩ := fown_dg hown1 (by omega)
      have h3 : wr.heap.size = g0 := congrArg Addr.block (Option.some.inj (Value.slice.inj e0).1)
      subst h3
      have HX := Lib.hid (show FrR w g 8 5 wr.heap.size 69 GN 2 F p (fun _ => 0) w0 from ⟨hb0, H.out.2.1.below hbel, H.out.1, hdg0, hg0, fun _ _ => by show 0 < 65536; omega, by rw [vd_nought]; exact Nat.dvd_zero _, by rw [vd_nought, ← HF.out, ← HG.out.2]; rfl⟩)
      clear hbel hb0 hown1 hown0 hgrow0 hdg0 hg0 e0 H
      go_wp2_with fail
      go_loopw [9, 10] (fun xv iv wr => ∃ (z : Int) (n g2 c2 : Nat) (d : Nat → Nat), n ≤ 69 ∧ z = (n : Int) - 1 ∧ iv = .int .i64 z ∧ xv = .slice (some ⟨g2, 0, none⟩) 5 c2 ∧ Hid (FrR w g 8 5 g2 n GN 2 F p d wr)) (fun _ iv _ => (intOf iv + 1).toNat)
      case atStart => exact ⟨68, 69, _, _, _, by omega, by omega, rfl, rfl, HX⟩
      case round =>
        obtain ⟨z, n, g2, c2, d, hn, hz, rfl, rfl, H⟩ := hrel
        clear HX
        cases n with
        | succ i =>
          obtain rfl : z = (i : Int) := by omega
          have hi0 : (0 : Int) ≤ i := by omega
          have hi1 : (i : Int) < 69 := by omega
          clear hz
          obtain ⟨q, hq⟩ : ∃ q : Nat, (i : Int) / 16 = (q : Int) := ⟨i / 16, by omega⟩
          obtain ⟨s, hs⟩ : ∃ s : Nat, (i : Int) % 16 = (s : Int) := ⟨i % 16, by omega⟩
          have hq0 : (0 : Int) ≤ q := by omega
          have hq1 : (q : Int) < 5 := by omega
          have hs0 : (0 : Int) ≤ s := by omega
          have hs1 : (s : Int) < 16 := by omega
          have HIQ := Lib.hid (show i = 16 * q + s by omega)
          have hmake := World.ownsRow_made (base := wr.heap.size) (e := 34) (size := 1) wr #[] 0 (by simp) (by decide) (by simp)
          go_wp2_with (at_builtin; refine wpList_append_own _ rfl _ _ 71 rfl wr.heap.size 34 i0 (.int .u64 0) 1 8 Tryd.underlying71 hi hz0 hz1 hz2 rfl (by decide) _ _ _ rfl hmake ⟨g2, 0, none⟩ 5 c2 (dl d 5) rfl (by rw [dl_len, Nat.mul_one]) ?d1 ?d2 ?d3 ?d4 ?d5 ?_)
          try (case d1 => exact fnews_dl (H.out.x.below ((Below.refl wr.heap.size wr).alloc (Nat.le_refl _) _)))
          try (case d2 => exact fone_dl _ _)
          try (case d3 => unfold maxLen; omega)
          try (case d4 => omega)
          try (case d5 => first | omega | (simp; done) | (simp; omega))
          intro v' w1 hown' hgrow _
          have hown2 : w1.ownsRow wr.heap.size 34 1 v' 5 (dl d 5) := by simpa using hown'
          obtain ⟨g', cap', rfl, hg', hcap', hdg', hout'⟩ := fown_dg hown2 (by omega)
          have hbw : Below wr.heap.size wr w1 := ((Below.refl _ _).alloc (Nat.le_refl _) _).grown hgrow (by simp) (fun j hj => by cases hj; exact Nat.le_refl _)
          have co : w1.cell? ⟨g', q, none⟩ = some (.int .u64 (d q : Nat)) := hdg'.2 q (by omega)
          have fo : w1.frozen? ⟨g', q, none⟩ = false := (hout'.2 q (by omega)).2
          obtain ⟨y, hy⟩ : ∃ y : Nat, 2 ^ s = y := ⟨_, rfl⟩
          have hyl : y < 65536 := by rw [← hy, show (65536 : Nat) = 2 ^ 16 by rfl]; exact Nat.pow_lt_pow_right (by omega) (by omega)
          have hpw : IntKind.u64.wrap ((2 : Int) ^ s) = (y : Int) := by
            have e0 : ((2 ^ s : Nat) : Int) = (2 : Int) ^ s := by simp
            rw [← e0, hy, IntKind.wrap_u64]; omega
          have hdq := H.out.dlt q (by omega)
          have horn : d q ||| y = d q + y := by
            rw [← hy]
            refine or_bit (d q) s (digit_dvd (d := d) (B := 5) (j := q) (by omega) (by omega) H.out.dlt ?_)
            rw [← Nat.add_assoc, ← HIQ.out]
            exact H.out.dvd
          have hsum : d q + y < 65536 := by
            rw [← horn]
            exact Nat.or_lt_two_pow (n := 16) hdq hyl
          have hor : bits .or .u64 ((d q : Nat) : Int) (y : Int) = ((d q + y : Nat) : Int) := by
            rw [bits_or_u64_nat _ _ (by omega) (by omega), horn]
          have hvb : vd (upd d q (d q + y)) 5 = vd d 5 + 2 ^ i := by rw [← hy, vd_bit (by omega), ← HIQ.out]
          obtain ⟨e, he⟩ : ∃ e, upd d q (d q + y) = e := ⟨_, rfl⟩
          have hel : ∀ j, j < 5 → e j < 65536 := fun j hj => by
            rw [← he]
            unfold upd
            split
            · exact hsum
            · exact H.out.dlt j hj
          have hset : Dg (w1.setCell ⟨g', q, none⟩ (.int .u64 ((d q + y : Nat) : Int))) g' 5 e := by
            have h9 := hout'.set q (d q + y) (by omega)
            rw [he] at h9
            exact ⟨h9.1, fun j hj => (h9.2 j hj).1⟩
          rw [he] at hvb
          have HE := Lib.hid (And.intro hg' (And.intro hset (And.intro hel (And.intro hvb (hbw.setCell (p := ⟨g', q, none⟩) hg' (.int .u64 ((d q + y : Nat) : Int)))))))
          have HOR := Lib.hid hor
          clear hown' hown2 hgrow hdg' hout' hbw hy hyl hdq horn hsum hor hvb he hel hset hmake hg'
          go_wp2_with fail
          rw [HOR.out]
          refine (product_digits g' cap' g' cap' 5 5 e e (by omega) (by omega) HE.out.2.2.1 HE.out.2.2.1 _ HE.out.2.1 HE.out.2.1).mono ?_
          rintro e9 w3 ⟨bt, capt, dt, rfl, hbt, hDt, hdtl, hdtv, hbp⟩
          have HT := Lib.hid (And.intro hDt (And.intro hdtl (And.intro hdtv (And.intro (HE.out.2.2.2.2.trans (hbp.mono HE.out.2.2.2.2.size)) hbp))))
          clear hbt hDt hdtl hdtv hbp co fo
          go_wp2_with fail
          refine (less_any g c bt capt (8 + 1) (5 + 5) (gdg p 8) dt (by omega) (by omega) (fun j _ => by unfold gdg; split; exact HP.out; omega) HT.out.2.1 _ (H.out.gl.below HT.out.2.2.2.1) HT.out.1).mono ?_
          rintro e9 w9 ⟨rfl, rfl⟩
          have hcmp : decide (vd (gdg p 8) (8 + 1) < vd dt (5 + 5)) = !(decide ((vd d 5 + 2 ^ i) ^ 2 ≤ GN)) := by
            rw [← HG.out.1, HG.out.2, HT.out.2.2.1, HE.out.2.2.2.1, Nat.pow_two]
            by_cases h : (vd d 5 + 2 ^ i) * (vd d 5 + 2 ^ i) ≤ GN
            · rw [decide_eq_true h, decide_eq_false (by omega)]; rfl
            · rw [decide_eq_false h, decide_eq_true (by omega)]; rfl
          rw [hcmp]
          clear hcmp
          by_cases hle : (vd d 5 + 2 ^ i) ^ 2 ≤ GN
          · have HN := Lib.hid (H.out.take HT.out.2.2.2.1 (HE.out.2.1.below HT.out.2.2.2.2) (Nat.le_trans H.out.old.size HE.out.1) HE.out.2.2.1 HE.out.2.2.2.1 hle)
            rw [decide_eq_true hle]
            clear hle HE HT H HOR
            go_wp2_with fail
            go_roundw
            case rel => exact ⟨(i : Int) - 1, i, g', cap', e, by omega, rfl, rfl, rfl, HN⟩
            case measure => first | (simp [intOf]; done) | (simp [intOf]; omega)
          · have HN := Lib.hid (H.out.stay HT.out.2.2.2.1 hle)
            rw [decide_eq_false hle]
            clear hle HE HT H HOR
            go_wp2_with fail
            go_roundw
            case rel => exact ⟨(i : Int) - 1, i, g2, c2, d, by omega, rfl, rfl, rfl, HN⟩
            case measure => first | (simp [intOf]; done) | (simp [intOf]; omega)
        | zero =>
          have hz1 : z < 0 := by omega
          have hzf : decide (0 ≤ z) = false := by rw [decide_eq_false_iff_not]; omega
          have HZ := Lib.hid hz; clear hz
          go_wp2_with fail
          go_loopw [13, 14] (fun nv iv wx => ∃ (z : Int) (k r : Nat), k ≤ 4 ∧ z = (k : Int) - 1 ∧ iv = .int .i64 z ∧ nv = .int .u64 r ∧ r = vd d 5 % 65536 ^ 4 / 65536 ^ k ∧ wx = wr) (fun _ iv _ => (intOf iv + 1).toNat)
          case atStart => exact ⟨3, 4, 0, by omega, by omega, rfl, rfl, by rw [Nat.div_eq_of_lt (Nat.mod_lt _ (Nat.pow_pos (by omega)))], rfl⟩
          case round =>
            obtain ⟨z2, k, r, hk, hz2, rfl, rfl, hr, rfl⟩ := hrel
            cases k with
            | succ j =>
              obtain rfl : z2 = (j : Int) := by omega
              have hj0 : (0 : Int) ≤ j := by omega
              have hj1 : (j : Int) < 4 := by omega
              have hj2 : (j : Int) < 5 := by omega
              clear hz2
              have cj : wr.cell? ⟨g2, j, none⟩ = some (.int .u64 (d j : Nat)) := H.out.x.2 j (by omega)
              have hdj := H.out.dlt j (by omega)
              have hnext : vd d 5 % 65536 ^ 4 / 65536 ^ j = r * 65536 + d j := by
                rw [low_next (by omega), ← hr, vd_digit (by omega) H.out.dlt]
              have hrl : r < 281474976710656 := by
                rw [hr, Nat.div_lt_iff_lt_mul (Nat.pow_pos (by omega))]
                have h1 : vd d 5 % 65536 ^ 4 < 65536 ^ 4 := Nat.mod_lt _ (Nat.pow_pos (by omega))
                have h2 : 65536 ^ 1 ≤ 65536 ^ (j + 1) := Nat.pow_le_pow_right (by omega) (by omega)
                have h3 := Nat.mul_le_mul_left 281474976710656 h2
                omega
              have e1 : IntKind.u64.wrap ((r : Int) * 2 ^ 16) = ((r * 65536 : Nat) : Int) := by rw [IntKind.wrap_u64]; omega
              have e2 : IntKind.u64.wrap ((r : Int) * 65536) = ((r * 65536 : Nat) : Int) := by rw [IntKind.wrap_u64]; omega
              have hor : bits .or .u64 ((r * 65536 : Nat) : Int) ((d j : Nat) : Int) = ((r * 65536 + d j : Nat) : Int) := by
                rw [bits_or_u64_nat _ _ (by omega) (by omega), or_low16 _ _ hdj]
              have HOR := Lib.hid (And.intro hor hnext)
              clear hor hnext hr hrl hdj
              generalize hR : r * 65536 = R at e1 e2 HOR
              have HRR := Lib.hid hR
              clear hR
              go_wp2_with fail
              rw [HOR.out.1]
              go_roundw
              case rel => exact ⟨(j : Int) - 1, j, R + d j, by omega, rfl, rfl, rfl, HOR.out.2.symm, trivial⟩
              case measure => first | (simp [intOf]; done) | (simp [intOf]; omega)
            | zero =>
              have hz3 : z2 < 0 := by omega
              have hzf2 : decide (0 ≤ z2) = false := by rw [decide_eq_false_iff_not]; omega
              have HR := Lib.hid (show r = F % 65536 ^ 4 from by
                rw [hr, Nat.pow_zero, Nat.div_one]
                have h9 := H.out.left
                rw [show frs GN 2 0 (vd d 5) = vd d 5 from rfl] at h9
                rw [h9])
              clear hz2 hr
              go_wp2_with fail
              go_ret
              exact ⟨by rw [← HR.out]; rfl, H.out.old⟩
end Go.Proofs.YtoeomlmnejhgpaaDoor

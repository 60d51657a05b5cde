/- What GCD comes to, the program's and the reference's, of numbers that are few. -/
import Derived.Test.YtgegkffigjogcaaNPowers
namespace Go.Proofs.Ytgegkffigjogcaa
open Go.RowKit

theorem pv_one {X Y : Nat} {v : Value} {w : World} (h1 : PV X v w) (h2 : PV Y v w) : X = Y := by
  obtain ⟨a, n, cap, f, rfl, hn, rfl, -⟩ := h1
  obtain ⟨b, m, cb, g, e, hm, rfl, -⟩ := h2
  injection e with e1 e2 e3
  subst e1 e2 e3
  apply vb_congr
  intro j hj
  rcases hn.rd with h | ⟨b1, o1, e1, p1⟩
  · omega
  · rcases hm.rd with h | ⟨b2, o2, e2, p2⟩
    · omega
    · rw [e1] at e2
      injection e2 with e2
      injection e2 with e3 e4
      subst e3 e4
      have h1 := p1.2 j hj
      rw [p2.2 j hj] at h1
      injection h1 with h1
      injection h1 with _ h1
      omega
open Classical in
/-- The number that a value is. -/
noncomputable def pvN (v : Value) (w : World) : Nat := if h : ∃ Y, PV Y v w then Classical.choose h else 0
theorem pvN_is {Y : Nat} {v : Value} {w : World} (h : PV Y v w) : pvN v w = Y := by
  have h1 : ∃ Y, PV Y v w := ⟨Y, h⟩
  unfold pvN
  rw [dif_pos h1]
  exact pv_one (Classical.choose_spec h1) h
theorem pv_few {V K n : Nat} {f : Nat → Nat} (hf : ∀ j, j < n → f j < 4294967296) (ht : n = 0 ∨ f (n - 1) ≠ 0) (hv : vb 4294967296 f n = V) (hV : V < 4294967296 ^ K) : n ≤ K := (plain_len (P := 4294967296) (by omega) hf ht).1 (by rw [hv]; exact hV)
theorem divide_pv {A B K : Nat} {u v : Value} {w : World} (hK : K ≤ 1000) (kA : A < 4294967296 ^ K) (kB : B < 4294967296 ^ K) (h0 : B ≠ 0) (hA : PV A u w) (hB : PV B v w) : Calls Try.prog 54 #[u, v] w fun e w' => ∃ x y, e = .returned (.tuple #[x, y]) ∧ NN (A % B) y w' ∧ Below w.heap.size w w' := by
  obtain ⟨a, n, ca, f, rfl, ha, hav, hat⟩ := hA
  obtain ⟨b, m, cb, g, rfl, hb, hbv, hbt⟩ := hB
  have hn := pv_few ha.lt hat hav kA
  have hm := pv_few hb.lt hbt hbv kB
  obtain ⟨k, rfl⟩ : ∃ k, m = k + 1 := by
    refine ⟨m - 1, ?_⟩
    rcases Nat.eq_zero_or_pos m with h | h
    · exfalso; apply h0; rw [← hbv, h]; rfl
    · omega
  have hkt : g k ≠ 0 := by
    rcases hbt with h | h
    · omega
    · simpa using h
  refine (divide_any a n ca b k cb f g (by omega) (by omega) ha.lt hb.lt hkt w ha.rd hb.rd).mono ?_
  rintro e w' ⟨Q, nq, cq, R, cr, q, r, rfl, hnq, hcq, hcr, -, -, -, hWQ, hWR, hql, hrl, hvq, hvr, hb7⟩
  exact ⟨_, _, rfl, ⟨_, n + 1, cr, r, rfl, ⟨hcr, hWR.rd, fun p hp => by cases hp; exact hWR.1, hrl, by omega⟩, by rw [hvr, hav, hbv]⟩, hb7⟩
theorem trim_nn {V : Nat} {v : Value} {w : World} (h : NN V v w) : Calls Try.prog 41 #[v] w fun e w' => ∃ u, e = .returned u ∧ PV V u w' ∧ w = w' := by
  obtain ⟨a, n, cap, f, rfl, hn, hv⟩ := h
  refine (trim_nv hn).mono ?_
  rintro e w' ⟨rfl, rfl⟩
  exact ⟨_, rfl, ⟨a, _, cap, f, rfl, hn.trim, by rw [vb_tn]; exact hv, tn_top f n⟩, rfl⟩
theorem answer_pv {V K : Nat} {v : Value} {w : World} (hK : K ≤ 1024) (hV : V < 4294967296 ^ K) (h : PV V v w) : Calls Try.prog 43 #[v] w (Ans 0 V w) := by
  obtain ⟨a, n, cap, f, rfl, hn, hv, -⟩ := h
  have h := answer_nv hn
  rw [hv, cd_fit hK hV] at h
  exact h
theorem gcd_step (X Y : Nat) : Nat.gcd Y (X % Y) = Nat.gcd X Y := by
  rw [Nat.gcd_comm Y (X % Y), ← Nat.gcd_rec, Nat.gcd_comm]
theorem pv_pos {G : Nat} {v : Value} {w : World} (h : PV G v w) (h0 : G ≠ 0) : ∃ a n c, v = .slice a n c ∧ 0 < n := by
  obtain ⟨a, n, c, f, rfl, hn, hv, -⟩ := h
  refine ⟨a, n, c, rfl, ?_⟩
  rcases Nat.eq_zero_or_pos n with e | e
  · exfalso; apply h0; rw [← hv, e]; rfl
  · exact e
set_option maxRecDepth 100000 in
set_option maxHeartbeats 4000000 in
-- WHAT nat.GCD COMES TO.
theorem gcd_fit {A B K : Nat} {u v : Value} {w : World} (hK : K ≤ 100) (kA : A < 4294967296 ^ K) (kB : B < 4294967296 ^ K) (hA : NN A u w) (hB : NN B v w) : Calls Try.prog 33 #[u, v] w (Ans 0 (Nat.gcd A B) w) := by
  have hA' := hA
  have hB' := hB
  obtain ⟨a, n, ca, f, rfl, -, -⟩ := hA'
  obtain ⟨b, m, cb, g, rfl, -, -⟩ := hB'
  have hw1 : Below w.heap.size w (w.alloc (.cells #[.slice a n ca, .slice b m cb] 23)) := (Below.refl _ _).alloc (Nat.le_refl _) _
  have HC := Lib.hid (check_two (hA.below hw1) (hB.below hw1) (two_cells w _ _ _).1 (two_cells w _ _ _).2)
  rw [cd2_fit (k := K) (j := K) (by omega) (by omega) kA kB] at HC
  have NA := Lib.hid (hA.below hw1)
  have NB := Lib.hid (hB.below hw1)
  have HW1 := Lib.hid hw1
  have DV := Lib.hid (fun X Y x y w' (kX : X < 4294967296 ^ K) (kY : Y < 4294967296 ^ K) (h0 : Y ≠ 0) (hx : PV X x w') (hy : PV Y y w') => divide_pv (by omega) kX kY h0 hx hy)
  have AW := Lib.hid (fun X x w' (kX : X < 4294967296 ^ K) (hx : PV X x w') => answer_pv (by omega) kX hx)
  have KK := Lib.hid (And.intro kA kB)
  clear hA hB hw1 kA kB hK
  obtain ⟨w1, hw1e⟩ : ∃ w1, w.alloc (.cells #[.slice a n ca, .slice b m cb] 23) = w1 := ⟨_, rfl⟩
  rw [hw1e] at HC NA NB HW1
  go_enter Try.func33, Try.ntmps33
  go_wp2_with fail
  clear hw1e
  refine HC.out.mono ?_
  rintro e w' ⟨rfl, rfl⟩
  go_wp2_with fail
  refine (trim_nn NA.out).mono ?_
  rintro e w' ⟨p, rfl, hp, rfl⟩
  have PA := Lib.hid hp
  clear hp
  go_wp2_with fail
  refine (trim_nn NB.out).mono ?_
  rintro e w' ⟨q, rfl, hq, rfl⟩
  have PB := Lib.hid hq
  clear hq
  go_wp2
  go_loopw [0, 1] (fun x y wr => ∃ X Y : Nat, Hid (PV X x wr ∧ PV Y y wr ∧ X < 4294967296 ^ K ∧ Y < 4294967296 ^ K ∧ Nat.gcd X Y = Nat.gcd A B ∧ Below w.heap.size w wr)) (fun _ y wr => pvN y wr)
  case atStart => exact ⟨A, B, Lib.hid ⟨PA.out, PB.out, KK.out.1, KK.out.2, rfl, HW1.out⟩⟩
  case round =>
    obtain ⟨X, Y, H⟩ := hrel
    obtain ⟨h1, h2, h3, h4, h5, h6⟩ := H.out
    have HY := Lib.hid (pvN_is h2)
    have P1 := Lib.hid h1
    have P2 := Lib.hid h2
    have HK := Lib.hid (And.intro h3 h4)
    have HG := Lib.hid h5
    have HW := Lib.hid h6
    clear h1 h3 h4 h5 h6 H
    by_cases h0 : Y = 0
    · subst h0
      obtain ⟨b2, c2, rfl⟩ := pv_none h2
      clear h2
      have HG2 : Hid (X = Nat.gcd A B) := Lib.hid (by rw [← HG.out, Nat.gcd_zero_right])
      clear HG
      go_wp2_with fail
      refine (AW.out _ _ _ HK.out.1 P1.out).mono ?_
      rintro e wn ⟨r, rfl, hx, hy, hb⟩
      rw [HG2.out] at hx
      have HF := Lib.hid (And.intro hx (And.intro hy (HW.out.trans (hb.mono HW.out.size))))
      clear hx hy hb
      go_wp2
      go_ret2
      exact ⟨r, rfl, fun _ => HF.out.1 trivial, fun h => absurd rfl h, HF.out.2.2⟩
    · obtain ⟨b2, m2, c2, rfl, hpos⟩ := pv_pos h2 h0
      have hpos' : (0 : Int) < m2 := by omega
      have H0 := Lib.hid h0
      clear h2 h0 hpos
      go_wp2_with fail
      refine (DV.out _ _ _ _ _ HK.out.1 HK.out.2 H0.out P1.out P2.out).mono ?_
      rintro e wn ⟨x5, x6, rfl, hx, hb⟩
      have NR := Lib.hid hx
      replace P2 := Lib.hid (P2.out.below hb)
      replace HW := Lib.hid (HW.out.trans (hb.mono HW.out.size))
      clear hx hb P1
      go_wp2_with fail
      refine (trim_nn NR.out).mono ?_
      rintro e w' ⟨x7, rfl, hx, rfl⟩
      have P7 := Lib.hid hx
      have HM := Lib.hid (pvN_is hx)
      clear hx NR
      have HLT : Hid (X % Y < Y) := Lib.hid (Nat.mod_lt _ (by have := H0.out; omega))
      go_wp2
      go_roundw
      case rel => exact ⟨Y, X % Y, Lib.hid ⟨P2.out, P7.out, HK.out.2, Nat.lt_trans HLT.out HK.out.2, by rw [gcd_step]; exact HG.out, HW.out⟩⟩
      case measure =>
        show pvN _ _ < pvN _ _
        rw [HM.out, HY.out]
        exact HLT.out
set_option maxRecDepth 100000 in
set_option maxHeartbeats 4000000 in
-- WHAT THE REFERENCE's GCD COMES TO.
theorem rgcd_fit {A B K : Nat} {u v : Value} {w : World} (hK : K ≤ 100) (kA : A < 4294967296 ^ K) (kB : B < 4294967296 ^ K) (hA : AN A u w) (hB : AN B v w) : Calls Try.prog 34 #[u, v] w (AnsR 0 (Nat.gcd A B) w) := by
  have HC := Lib.hid (both_an hA hB)
  rw [cd2_fit (k := K) (j := K) (by omega) (by omega) kA kB] at HC
  have UA := Lib.hid hA
  have UB := Lib.hid hB
  have DV := Lib.hid (fun X Y x y w' (kX : X < 4294967296 ^ K) (kY : Y < 4294967296 ^ K) (h0 : 0 < Y) (hx : AN X x w') (hy : AN Y y w') => rdivide_an (by omega) kX kY h0 hx hy)
  have KK := Lib.hid (And.intro kA kB)
  clear hA hB kA kB hK
  go_enter Try.func34, Try.ntmps34
  have HW : Hid (Below w.heap.size w w) := Lib.hid (Below.refl _ _)
  go_wp2_with fail
  refine (HC.out).mono ?_
  rintro e wn ⟨rfl, hb⟩
  replace UA := Lib.hid (UA.out.below hb)
  replace UB := Lib.hid (UB.out.below hb)
  replace HW := Lib.hid (HW.out.trans (hb.mono HW.out.size))
  clear hb
  go_wp2_with fail
  refine (plain_an UA.out).mono ?_
  rintro e wn ⟨p, rfl, hx, hb⟩
  replace UB := Lib.hid (UB.out.below hb)
  replace HW := Lib.hid (HW.out.trans (hb.mono HW.out.size))
  have PA := Lib.hid (hx)
  clear hb UA
  clear hx
  go_wp2_with fail
  refine (plain_an UB.out).mono ?_
  rintro e wn ⟨q, rfl, hx, hb⟩
  replace PA := Lib.hid (PA.out.below hb)
  replace HW := Lib.hid (HW.out.trans (hb.mono HW.out.size))
  have PB := Lib.hid (hx)
  clear hb UB
  clear hx
  go_wp2
  go_loopw [7, 8] (fun x y wr => ∃ X Y : Nat, Hid (RP X x wr ∧ RP Y y wr ∧ X < 4294967296 ^ K ∧ Y < 4294967296 ^ K ∧ Nat.gcd X Y = Nat.gcd A B ∧ Below w.heap.size w wr)) (fun _ y wr => pvN y wr)
  case atStart => exact ⟨A, B, Lib.hid ⟨PA.out, PB.out, KK.out.1, KK.out.2, rfl, HW.out⟩⟩
  case round =>
    clear HW
    obtain ⟨X, Y, H⟩ := hrel
    obtain ⟨h1, h2, h3, h4, h5, h6⟩ := H.out
    have HY := Lib.hid (pvN_is h2.pv)
    have P1 := Lib.hid h1
    have P2 := Lib.hid h2
    have HK := Lib.hid (And.intro h3 h4)
    have HG := Lib.hid h5
    have HW := Lib.hid h6
    clear h1 h3 h4 h5 h6 H
    by_cases h0 : Y = 0
    · subst h0
      obtain ⟨b2, c2, rfl⟩ := pv_none h2.pv
      clear h2
      have HG2 : Hid (X = Nat.gcd A B) := Lib.hid (by rw [← HG.out, Nat.gcd_zero_right])
      clear HG
      have HF : Hid (RP (Nat.gcd A B) _ _) := Lib.hid (by rw [← HG2.out]; exact P1.out)
      clear HG2 P1
      go_wp2
      go_ret2
      exact ⟨_, rfl, fun _ => HF.out, fun h => absurd rfl h, HW.out⟩
    · obtain ⟨b2, m2, c2, rfl, hpos⟩ := pv_pos h2.pv h0
      have hpos' : (0 : Int) < m2 := by omega
      have H0 := Lib.hid h0
      clear h2 h0 hpos
      go_wp2_with fail
      refine (DV.out _ _ _ _ _ HK.out.1 HK.out.2 (by have := H0.out; omega) P1.out.an P2.out.an).mono ?_
      rintro e wn ⟨x5, x6, rfl, -, hx, hb⟩
      have P7 := Lib.hid hx
      have HM := Lib.hid (pvN_is hx.pv)
      replace P2 := Lib.hid (P2.out.below hb)
      replace HW := Lib.hid (HW.out.trans (hb.mono HW.out.size))
      clear hx hb P1
      have HLT : Hid (X % Y < Y) := Lib.hid (Nat.mod_lt _ (by have := H0.out; omega))
      go_wp2
      go_roundw
      case rel => exact ⟨Y, X % Y, Lib.hid ⟨P2.out, P7.out, HK.out.2, Nat.lt_trans HLT.out HK.out.2, by rw [gcd_step]; exact HG.out, HW.out⟩⟩
      case measure =>
        show pvN _ _ < pvN _ _
        rw [HM.out, HY.out]
        exact HLT.out
end Go.Proofs.Ytgegkffigjogcaa

/- bailiwicklaw02.NatAdds: whatever the lists: true. (With it, merged: NGcd · NSub · NRSub · NLong · NAdds.) -/
import Derived.Test.YtgegkffigjogcaaM8
namespace Go.Proofs.Ytgegkffigjogcaa
open Go.RowKit

theorem pv_one {X Y : Nat} {v : Value} {w : World} (h1 : PV X v w) (h2 : PV Y v w) : X = Y := by
  obtain ⟨a, n, cap, f, rfl, hn, rfl, -⟩ := h1
  obtain ⟨b, m, cb, g, e, hm, rfl, -⟩ := h2
  injection e with e1 e2 e3
  subst e1 e2 e3
  apply vb_congr
  intro j hj
  rcases hn.rd with h | ⟨b1, o1, e1, p1⟩
  · omega
  · rcases hm.rd with h | ⟨b2, o2, e2, p2⟩
    · omega
    · rw [e1] at e2
      injection e2 with e2
      injection e2 with e3 e4
      subst e3 e4
      have h1 := p1.2 j hj
      rw [p2.2 j hj] at h1
      injection h1 with h1
      injection h1 with _ h1
      omega
open Classical in
/-- The number that a value is. -/
noncomputable def pvN (v : Value) (w : World) : Nat := if h : ∃ Y, PV Y v w then Classical.choose h else 0
theorem pvN_is {Y : Nat} {v : Value} {w : World} (h : PV Y v w) : pvN v w = Y := by
  have h1 : ∃ Y, PV Y v w := ⟨Y, h⟩
  unfold pvN
  rw [dif_pos h1]
  exact pv_one (Classical.choose_spec h1) h
theorem pv_few {V K n : Nat} {f : Nat → Nat} (hf : ∀ j, j < n → f j < 4294967296) (ht : n = 0 ∨ f (n - 1) ≠ 0) (hv : vb 4294967296 f n = V) (hV : V < 4294967296 ^ K) : n ≤ K := (plain_len (P := 4294967296) (by omega) hf ht).1 (by rw [hv]; exact hV)
theorem divide_pv {A B K : Nat} {u v : Value} {w : World} (hK : K ≤ 1000) (kA : A < 4294967296 ^ K) (kB : B < 4294967296 ^ K) (h0 : B ≠ 0) (hA : PV A u w) (hB : PV B v w) : Calls Try.prog 54 #[u, v] w fun e w' => ∃ x y, e = .returned (.tuple #[x, y]) ∧ NN (A % B) y w' ∧ Below w.heap.size w w' := by
  obtain ⟨a, n, ca, f, rfl, ha, hav, hat⟩ := hA
  obtain ⟨b, m, cb, g, rfl, hb, hbv, hbt⟩ := hB
  have hn := pv_few ha.lt hat hav kA
  have hm := pv_few hb.lt hbt hbv kB
  obtain ⟨k, rfl⟩ : ∃ k, m = k + 1 := by
    refine ⟨m - 1, ?_⟩
    rcases Nat.eq_zero_or_pos m with h | h
    · exfalso; apply h0; rw [← hbv, h]; rfl
    · omega
  have hkt : g k ≠ 0 := by
    rcases hbt with h | h
    · omega
    · simpa using h
  refine (divide_any a n ca b k cb f g (by omega) (by omega) ha.lt hb.lt hkt w ha.rd hb.rd).mono ?_
  rintro e w' ⟨Q, nq, cq, R, cr, q, r, rfl, hnq, hcq, hcr, -, -, -, hWQ, hWR, hql, hrl, hvq, hvr, hb7⟩
  exact ⟨_, _, rfl, ⟨_, n + 1, cr, r, rfl, ⟨hcr, hWR.rd, fun p hp => by cases hp; exact hWR.1, hrl, by omega⟩, by rw [hvr, hav, hbv]⟩, hb7⟩
theorem trim_nn {V : Nat} {v : Value} {w : World} (h : NN V v w) : Calls Try.prog 41 #[v] w fun e w' => ∃ u, e = .returned u ∧ PV V u w' ∧ w = w' := by
  obtain ⟨a, n, cap, f, rfl, hn, hv⟩ := h
  refine (trim_nv hn).mono ?_
  rintro e w' ⟨rfl, rfl⟩
  exact ⟨_, rfl, ⟨a, _, cap, f, rfl, hn.trim, by rw [vb_tn]; exact hv, tn_top f n⟩, rfl⟩
theorem answer_pv {V K : Nat} {v : Value} {w : World} (hK : K ≤ 1024) (hV : V < 4294967296 ^ K) (h : PV V v w) : Calls Try.prog 43 #[v] w (Ans 0 V w) := by
  obtain ⟨a, n, cap, f, rfl, hn, hv, -⟩ := h
  have h := answer_nv hn
  rw [hv, cd_fit hK hV] at h
  exact h
theorem gcd_step (X Y : Nat) : Nat.gcd Y (X % Y) = Nat.gcd X Y := by
  rw [Nat.gcd_comm Y (X % Y), ← Nat.gcd_rec, Nat.gcd_comm]
theorem pv_pos {G : Nat} {v : Value} {w : World} (h : PV G v w) (h0 : G ≠ 0) : ∃ a n c, v = .slice a n c ∧ 0 < n := by
  obtain ⟨a, n, c, f, rfl, hn, hv, -⟩ := h
  refine ⟨a, n, c, rfl, ?_⟩
  rcases Nat.eq_zero_or_pos n with e | e
  · exfalso; apply h0; rw [← hv, e]; rfl
  · exact e
set_option maxRecDepth 100000 in
set_option maxHeartbeats 4000000 in
-- WHAT nat.GCD COMES TO.
theorem gcd_fit {A B K : Nat} {u v : Value} {w : World} (hK : K ≤ 100) (kA : A < 4294967296 ^ K) (kB : B < 4294967296 ^ K) (hA : NN A u w) (hB : NN B v w) : Calls Try.prog 33 #[u, v] w (Ans 0 (Nat.gcd A B) w) := by
  have hA' := hA
  have hB' := hB
  obtain ⟨a, n, ca, f, rfl, -, -⟩ := hA'
  obtain ⟨b, m, cb, g, rfl, -, -⟩ := hB'
  have hw1 : Below w.heap.size w (w.alloc (.cells #[.slice a n ca, .slice b m cb] 23)) := (Below.refl _ _).alloc (Nat.le_refl _) _
  have HC := Lib.hid (check_two (hA.below hw1) (hB.below hw1) (two_cells w _ _ _).1 (two_cells w _ _ _).2)
  rw [cd2_fit (k := K) (j := K) (by omega) (by omega) kA kB] at HC
  have NA := Lib.hid (hA.below hw1)
  have NB := Lib.hid (hB.below hw1)
  have HW1 := Lib.hid hw1
  have DV := Lib.hid (fun X Y x y w' (kX : X < 4294967296 ^ K) (kY : Y < 4294967296 ^ K) (h0 : Y ≠ 0) (hx : PV X x w') (hy : PV Y y w') => divide_pv (by omega) kX kY h0 hx hy)
  have AW := Lib.hid (fun X x w' (kX : X < 4294967296 ^ K) (hx : PV X x w') => answer_pv (by omega) kX hx)
  have KK := Lib.hid (And.intro kA kB)
  clear hA hB hw1 kA kB hK
  obtain ⟨w1, hw1e⟩ : ∃ w1, w.alloc (.cells #[.slice a n ca, .slice b m cb] 23) = w1 := ⟨_, rfl⟩
  rw [hw1e] at HC NA NB HW1
  go_enter Try.func33, Try.ntmps33
  go_wp2_with fail
  clear hw1e
  refine HC.out.mono ?_
  rintro e w' ⟨rfl, rfl⟩
  go_wp2_with fail
  refine (trim_nn NA.out).mono ?_
  rintro e w' ⟨p, rfl, hp, rfl⟩
  have PA := Lib.hid hp
  clear hp
  go_wp2_with fail
  refine (trim_nn NB.out).mono ?_
  rintro e w' ⟨q, rfl, hq, rfl⟩
  have PB := Lib.hid hq
  clear hq
  go_wp2
  go_loopw [0, 1] (fun x y wr => ∃ X Y : Nat, Hid (PV X x wr ∧ PV Y y wr ∧ X < 4294967296 ^ K ∧ Y < 4294967296 ^ K ∧ Nat.gcd X Y = Nat.gcd A B ∧ Below w.heap.size w wr)) (fun _ y wr => pvN y wr)
  case atStart => exact ⟨A, B, Lib.hid ⟨PA.out, PB.out, KK.out.1, KK.out.2, rfl, HW1.out⟩⟩
  case round =>
    obtain ⟨X, Y, H⟩ := hrel
    obtain ⟨h1, h2, h3, h4, h5, h6⟩ := H.out
    have HY := Lib.hid (pvN_is h2)
    have P1 := Lib.hid h1
    have P2 := Lib.hid h2
    have HK := Lib.hid (And.intro h3 h4)
    have HG := Lib.hid h5
    have HW := Lib.hid h6
    clear h1 h3 h4 h5 h6 H
    by_cases h0 : Y = 0
    · subst h0
      obtain ⟨b2, c2, rfl⟩ := pv_none h2
      clear h2
      have HG2 : Hid (X = Nat.gcd A B) := Lib.hid (by rw [← HG.out, Nat.gcd_zero_right])
      clear HG
      go_wp2_with fail
      refine (AW.out _ _ _ HK.out.1 P1.out).mono ?_
      rintro e wn ⟨r, rfl, hx, hy, hb⟩
      rw [HG2.out] at hx
      have HF := Lib.hid (And.intro hx (And.intro hy (HW.out.trans (hb.mono HW.out.size))))
      clear hx hy hb
      go_wp2
      go_ret2
      exact ⟨r, rfl, fun _ => HF.out.1 trivial, fun h => absurd rfl h, HF.out.2.2⟩
    · obtain ⟨b2, m2, c2, rfl, hpos⟩ := pv_pos h2 h0
      have hpos' : (0 : Int) < m2 := by omega
      have H0 := Lib.hid h0
      clear h2 h0 hpos
      go_wp2_with fail
      refine (DV.out _ _ _ _ _ HK.out.1 HK.out.2 H0.out P1.out P2.out).mono ?_
      rintro e wn ⟨x5, x6, rfl, hx, hb⟩
      have NR := Lib.hid hx
      replace P2 := Lib.hid (P2.out.below hb)
      replace HW := Lib.hid (HW.out.trans (hb.mono HW.out.size))
      clear hx hb P1
      go_wp2_with fail
      refine (trim_nn NR.out).mono ?_
      rintro e w' ⟨x7, rfl, hx, rfl⟩
      have P7 := Lib.hid hx
      have HM := Lib.hid (pvN_is hx)
      clear hx NR
      have HLT : Hid (X % Y < Y) := Lib.hid (Nat.mod_lt _ (by have := H0.out; omega))
      go_wp2
      go_roundw
      case rel => exact ⟨Y, X % Y, Lib.hid ⟨P2.out, P7.out, HK.out.2, Nat.lt_trans HLT.out HK.out.2, by rw [gcd_step]; exact HG.out, HW.out⟩⟩
      case measure =>
        show pvN _ _ < pvN _ _
        rw [HM.out, HY.out]
        exact HLT.out
set_option maxRecDepth 100000 in
set_option maxHeartbeats 4000000 in
-- WHAT THE REFERENCE's GCD COMES TO.
theorem rgcd_fit {A B K : Nat} {u v : Value} {w : World} (hK : K ≤ 100) (kA : A < 4294967296 ^ K) (kB : B < 4294967296 ^ K) (hA : AN A u w) (hB : AN B v w) : Calls Try.prog 34 #[u, v] w (AnsR 0 (Nat.gcd A B) w) := by
  have HC := Lib.hid (both_an hA hB)
  rw [cd2_fit (k := K) (j := K) (by omega) (by omega) kA kB] at HC
  have UA := Lib.hid hA
  have UB := Lib.hid hB
  have DV := Lib.hid (fun X Y x y w' (kX : X < 4294967296 ^ K) (kY : Y < 4294967296 ^ K) (h0 : 0 < Y) (hx : AN X x w') (hy : AN Y y w') => rdivide_an (by omega) kX kY h0 hx hy)
  have KK := Lib.hid (And.intro kA kB)
  clear hA hB kA kB hK
  go_enter Try.func34, Try.ntmps34
  have HW : Hid (Below w.heap.size w w) := Lib.hid (Below.refl _ _)
  go_wp2_with fail
  refine (HC.out).mono ?_
  rintro e wn ⟨rfl, hb⟩
  replace UA := Lib.hid (UA.out.below hb)
  replace UB := Lib.hid (UB.out.below hb)
  replace HW := Lib.hid (HW.out.trans (hb.mono HW.out.size))
  clear hb
  go_wp2_with fail
  refine (plain_an UA.out).mono ?_
  rintro e wn ⟨p, rfl, hx, hb⟩
  replace UB := Lib.hid (UB.out.below hb)
  replace HW := Lib.hid (HW.out.trans (hb.mono HW.out.size))
  have PA := Lib.hid (hx)
  clear hb UA
  clear hx
  go_wp2_with fail
  refine (plain_an UB.out).mono ?_
  rintro e wn ⟨q, rfl, hx, hb⟩
  replace PA := Lib.hid (PA.out.below hb)
  replace HW := Lib.hid (HW.out.trans (hb.mono HW.out.size))
  have PB := Lib.hid (hx)
  clear hb UB
  clear hx
  go_wp2
  go_loopw [7, 8] (fun x y wr => ∃ X Y : Nat, Hid (RP X x wr ∧ RP Y y wr ∧ X < 4294967296 ^ K ∧ Y < 4294967296 ^ K ∧ Nat.gcd X Y = Nat.gcd A B ∧ Below w.heap.size w wr)) (fun _ y wr => pvN y wr)
  case atStart => exact ⟨A, B, Lib.hid ⟨PA.out, PB.out, KK.out.1, KK.out.2, rfl, HW.out⟩⟩
  case round =>
    clear HW
    obtain ⟨X, Y, H⟩ := hrel
    obtain ⟨h1, h2, h3, h4, h5, h6⟩ := H.out
    have HY := Lib.hid (pvN_is h2.pv)
    have P1 := Lib.hid h1
    have P2 := Lib.hid h2
    have HK := Lib.hid (And.intro h3 h4)
    have HG := Lib.hid h5
    have HW := Lib.hid h6
    clear h1 h3 h4 h5 h6 H
    by_cases h0 : Y = 0
    · subst h0
      obtain ⟨b2, c2, rfl⟩ := pv_none h2.pv
      clear h2
      have HG2 : Hid (X = Nat.gcd A B) := Lib.hid (by rw [← HG.out, Nat.gcd_zero_right])
      clear HG
      have HF : Hid (RP (Nat.gcd A B) _ _) := Lib.hid (by rw [← HG2.out]; exact P1.out)
      clear HG2 P1
      go_wp2
      go_ret2
      exact ⟨_, rfl, fun _ => HF.out, fun h => absurd rfl h, HW.out⟩
    · obtain ⟨b2, m2, c2, rfl, hpos⟩ := pv_pos h2.pv h0
      have hpos' : (0 : Int) < m2 := by omega
      have H0 := Lib.hid h0
      clear h2 h0 hpos
      go_wp2_with fail
      refine (DV.out _ _ _ _ _ HK.out.1 HK.out.2 (by have := H0.out; omega) P1.out.an P2.out.an).mono ?_
      rintro e wn ⟨x5, x6, rfl, -, hx, hb⟩
      have P7 := Lib.hid hx
      have HM := Lib.hid (pvN_is hx.pv)
      replace P2 := Lib.hid (P2.out.below hb)
      replace HW := Lib.hid (HW.out.trans (hb.mono HW.out.size))
      clear hx hb P1
      have HLT : Hid (X % Y < Y) := Lib.hid (Nat.mod_lt _ (by have := H0.out; omega))
      go_wp2
      go_roundw
      case rel => exact ⟨Y, X % Y, Lib.hid ⟨P2.out, P7.out, HK.out.2, Nat.lt_trans HLT.out HK.out.2, by rw [gcd_step]; exact HG.out, HW.out⟩⟩
      case measure =>
        show pvN _ _ < pvN _ _
        rw [HM.out, HY.out]
        exact HLT.out
end Go.Proofs.Ytgegkffigjogcaa
namespace Go.Proofs.Ytgegkffigjogcaa
open Go.RowKit

set_option maxRecDepth 100000 in
theorem clone_wr (b o n cap : Nat) (f : Nat → Nat) (hn : (n : Int) ≤ 35184372088832) (h0 : 0 < n) (w : World) (hP : Pt w b o n f) :
    Calls Try.prog 52 #[.slice (some ⟨b, o, none⟩) n cap] w fun e w' => ∃ S c, e = .returned (.slice (some ⟨S, 0, none⟩) n c) ∧ n ≤ c ∧ Wr w' S 0 n f ∧ w.heap.size ≤ S ∧ Below w.heap.size w w' := by
  have HP := Lib.hid hP; clear hP
  obtain ⟨i0, hi, hz0, hz1, hz2⟩ := info_parts info32
  have hnil : ∀ w, (binOp .eql 23 (.slice (some ⟨b, o, none⟩) n cap) (.slice none 0 0)).run Try.prog w = .ok (.bool false) w := fun w => Lib.run_eql_slice_nil w _ _ _ _ _ _ _ Try.underlying23
  go_enter Try.func52, Try.ntmps52
  go_wp2_with (at_builtin; refine wpList_append_own _ rfl _ _ 23 rfl w.heap.size 32 i0 (.int .u32 0) 1 4 Try.underlying23 hi hz0 hz1 hz2 rfl (by decide) _ 0 [] rfl (World.ownsRow_made (base := w.heap.size) (e := 32) (size := 1) w #[] 0 (by simp) (by decide) (by simp)) ⟨b, o, none⟩ n cap (pl f n) rfl (by rw [pl_len, Nat.mul_one]) ?c1 ?c2 ?c3 ?c4 ?c5 ?_)
  case c1 => exact news_pl (HP.out.below ((Below.refl _ _).alloc (Nat.le_refl _) _))
  case c2 => exact one_pl f n
  case c3 => unfold maxLen; omega
  case c4 => omega
  case c5 => simp
  intro v' w1 hown' hgrow _
  obtain ⟨S, c, rfl, h1, h2, h3⟩ := own_wr hown' h0
  have HF := Lib.hid (And.intro h1 (And.intro h3 (And.intro h2 ((((Below.refl _ _).alloc (Nat.le_refl _) _).grown hgrow (by simp) (fun j hj => by cases hj; exact Nat.le_refl _)) : Below w.heap.size w w1))))
  clear hown' hgrow h1 h2 h3
  go_wp2
  go_ret
  exact ⟨S, c, rfl, HF.out⟩
set_option maxRecDepth 100000 in
theorem plain_z {v : Value} {w : World} (h : NN 0 v w) : Calls Try.prog 24 #[v] w fun e w' => e = .returned (.slice none 0 0) ∧ w = w' := by
  have HT := Lib.hid (trim_nn h)
  clear h
  go_enter Try.func24, Try.ntmps24
  go_wp2_with fail
  refine HT.out.mono ?_
  rintro e w' ⟨u, rfl, hu, rfl⟩
  obtain ⟨a, c, rfl⟩ := pv_none hu
  clear hu
  go_wp2
  go_ret
  exact ⟨rfl, rfl⟩
set_option maxRecDepth 100000 in
theorem plain_w {V : Nat} {v : Value} {w : World} (h : NN V v w) (h0 : V ≠ 0) : Calls Try.prog 24 #[v] w fun e w' => ∃ S n f, e = .returned (.slice (some ⟨S, 0, none⟩) n n) ∧ Wr w' S 0 n f ∧ (∀ j, j < n → f j < 4294967296) ∧ vb 4294967296 f n = V ∧ (n = 0 ∨ f (n - 1) ≠ 0) ∧ w.heap.size ≤ S ∧ Below w.heap.size w w' := by
  have HT := Lib.hid (trim_nn h)
  clear h
  go_enter Try.func24, Try.ntmps24
  go_wp2_with fail
  refine HT.out.mono ?_
  rintro e w' ⟨u, rfl, hu, rfl⟩
  obtain ⟨a, n, cap, f, rfl, hn, hv, ht⟩ := hu
  have hp : 0 < n := by
    rcases Nat.eq_zero_or_pos n with e | e
    · exfalso; apply h0; rw [← hv, e]; rfl
    · exact e
  obtain ⟨b, o, rfl, hpt⟩ := hn.rd.resolve_left (by omega)
  have hnf := hn.few
  have HC := Lib.hid (clone_wr b o n cap f hn.few hp w hpt)
  have HV := Lib.hid (And.intro hn.lt (And.intro hv ht))
  have e0 : ((n : Int) == 0) = false := by simp; omega
  clear hn hv ht hpt hp h0
  go_wp2_with fail
  refine HC.out.mono ?_
  rintro e w1 ⟨S, c, rfl, hc, hW, hS, hb⟩
  have HF := Lib.hid (And.intro hW (And.intro hS hb))
  clear hW hS hb
  go_wp2_with fail
  refine (clip_any _ n c hc _).mono ?_
  rintro e w' ⟨rfl, rfl⟩
  go_wp2
  go_ret
  exact ⟨S, n, f, rfl, HF.out.1, HV.out.1, HV.out.2.1, HV.out.2.2, HF.out.2.1, HF.out.2.2⟩
set_option maxRecDepth 100000 in
theorem takeFrom_none (a : Option Addr) (cap : Nat) (w : World) : Calls Try.prog 48 #[.slice none 0 0, .slice a 0 cap] w fun e w' => e = .returned (.int .u32 0) ∧ w = w' := by
  go_enter Try.func48, Try.ntmps48
  go_wp2
  go_loop [5, 11] (fun cv iv => cv = .int .u32 0 ∧ iv = .int .i64 0) (fun _ _ => 0)
  case atStart => exact ⟨rfl, rfl⟩
  case round =>
    obtain ⟨rfl, rfl⟩ := hrel
    go_wp2
    go_loop [5, 8] (fun cv iv => cv = .int .u32 0 ∧ iv = .int .i64 0) (fun _ _ => 0)
    case atStart => exact ⟨rfl, rfl⟩
    case round =>
      obtain ⟨rfl, rfl⟩ := hrel
      go_wp2
      go_ret
      exact ⟨rfl, rfl⟩
theorem takeFrom_wr {S n : Nat} {f : Nat → Nat} {A B : Nat} {v : Value} {w0 w : World} (hn : (n : Int) ≤ 34000000000) (hW : Wr w S 0 n f) (hf : ∀ j, j < n → f j < 4294967296) (hA : vb 4294967296 f n = A) (hB : PV B v w0) (hS : w0.heap.size ≤ S) (hb : Below w0.heap.size w0 w) (hle : B ≤ A) :
    Calls Try.prog 48 #[.slice (some ⟨S, 0, none⟩) n n, v] w fun e w' => e = .returned (.int .u32 0) ∧ NN (A - B) (.slice (some ⟨S, 0, none⟩) n n) w' ∧ But S w w' := by
  obtain ⟨a, m, cap, g, rfl, hg, hgv, hgt⟩ := hB
  have hmn : m ≤ n := (plain_len (P := 4294967296) (by omega) hg.lt hgt).1 (by rw [hgv]; exact Nat.lt_of_le_of_lt hle (by rw [← hA]; exact vb_lt hf))
  refine (takeFrom_any S 0 n n a m cap f g hn hmn hf hg.lt (fun q hq => by have := hg.blk q hq; omega) w hW (hg.rd.below hb)).mono ?_
  rintro e w' ⟨ns, c, rfl, hc, hl, hs, hh⟩
  rw [hgv, hA] at hs
  have hlt := vb_lt hl
  have hc0 : c = 0 := by
    rcases Nat.eq_zero_or_pos c with h | h
    · exact h
    · obtain rfl : c = 1 := by omega
      rw [Nat.mul_one] at hs
      omega
  subst hc0
  rw [Nat.mul_zero, Nat.add_zero] at hs
  have hW' := hh.wr hW
  exact ⟨rfl, ⟨_, n, n, ns, rfl, ⟨Nat.le_refl _, hW'.rd, fun q hq => by cases hq; exact hW'.1, hl, by omega⟩, by omega⟩, hh.1⟩
/-- What is told of A less B. -/
def cdS (A B : Nat) : Nat := if cd2 A B = 0 then (if A < B then 1 else 0) else cd2 A B
theorem trim_fix {B : Nat} {v : Value} {w : World} (h : NN B v w) : ∃ x, PV B x w ∧ ∀ w', Below w.heap.size w w' → Calls Try.prog 41 #[v] w' fun e w'' => e = .returned x ∧ w' = w'' := by
  obtain ⟨a, n, cap, f, rfl, hn, hv⟩ := h
  exact ⟨.slice a (tn f n) cap, ⟨a, _, cap, f, rfl, hn.trim, by rw [vb_tn]; exact hv, tn_top f n⟩, fun w' hb => trim_nv (hn.below hb)⟩
theorem answer_nn {V K : Nat} {v : Value} {w : World} (hK : K ≤ 1024) (hV : V < 4294967296 ^ K) (h : NN V v w) : Calls Try.prog 43 #[v] w (Ans 0 V w) := by
  obtain ⟨a, n, cap, f, rfl, hn, hv⟩ := h
  have h := answer_nv hn
  rw [hv, cd_fit hK hV] at h
  exact h
set_option maxRecDepth 100000 in
set_option maxHeartbeats 2000000 in
-- WHAT nat.Sub COMES TO.
theorem sub_api {A B : Nat} {u v : Value} {w : World} (hA : NN A u w) (hB : NN B v w) : Calls Try.prog 15 #[u, v] w (Ans (cdS A B) (A - B) w) := by
  have hA' := hA
  have hB' := hB
  obtain ⟨a, n, ca, f, rfl, ha, hav⟩ := hA'
  obtain ⟨b, m, cb, g, rfl, -, -⟩ := hB'
  have hw1 : Below w.heap.size w (w.alloc (.cells #[.slice a n ca, .slice b m cb] 23)) := (Below.refl _ _).alloc (Nat.le_refl _) _
  have HC := Lib.hid (check_two (hA.below hw1) (hB.below hw1) (two_cells w _ _ _).1 (two_cells w _ _ _).2)
  have NA := Lib.hid (hA.below hw1)
  have NB := Lib.hid (hB.below hw1)
  have HW := Lib.hid hw1
  clear hA hB hw1
  obtain ⟨wn, hwn⟩ : ∃ wn, w.alloc (.cells #[.slice a n ca, .slice b m cb] 23) = wn := ⟨_, rfl⟩
  rw [hwn] at HC NA NB HW
  unfold cdS
  obtain ⟨c, hc⟩ : ∃ c, cd2 A B = c := ⟨_, rfl⟩
  rw [hc] at HC ⊢
  by_cases h0 : c = 0
  · have hL := cd2_zero (hc.trans h0)
    rw [if_pos h0]
    have e0 : ((c : Int) != 0) = false := by simp [h0]
    have CM := Lib.hid (fun w' (hx : NN A (.slice a n ca) w') (hy : NN B (.slice b m cb) w') => cmp_nn hx hy)
    clear hc h0 ha hav
    by_cases hlt : A < B
    · rw [if_pos hlt]
      rw [sgn_lt hlt] at CM
      clear hlt hL
      go_enter Try.func15, Try.ntmps15
      go_wp2_with fail
      clear hwn
      refine HC.out.mono ?_
      rintro e w' ⟨rfl, rfl⟩
      go_wp2_with fail
      refine (CM.out _ NA.out NB.out).mono ?_
      rintro e w2 ⟨rfl, hb⟩
      replace HW := Lib.hid (HW.out.trans (hb.mono HW.out.size))
      clear hb
      go_wp2
      go_ret2
      exact ⟨_, rfl, fun h => absurd h (by decide), fun _ => rfl, HW.out⟩
    · rw [if_neg hlt]
      have hle : B ≤ A := by omega
      obtain ⟨s, hs⟩ : ∃ s, sgn A B = s := ⟨_, rfl⟩
      have hs0 : ¬ s < 0 := by rw [← hs]; unfold sgn; rw [if_neg hlt]; split <;> omega
      rw [hs] at CM
      have hAB : A - B < LIM := Nat.lt_of_le_of_lt (Nat.sub_le _ _) hL.1
      have hcd : cdN (A - B) = 0 := by unfold cdN; rw [if_neg (Nat.not_le.2 hAB)]
      obtain ⟨K, hK, eL⟩ := lim_pow
      have hLA := hL.1
      rw [eL] at hLA
      clear hs hlt hL eL hAB
      by_cases hA0 : A = 0
      · subst hA0
        obtain rfl : B = 0 := by omega
        clear hle hLA hK
        have PZ := Lib.hid (fun w' (hx : NN 0 (.slice a n ca) w') => plain_z hx)
        have AW := Lib.hid (fun w' => answer_pv (K := 1) (by omega) (show 0 < 4294967296 ^ 1 by omega) (pv_nil w'))
        go_enter Try.func15, Try.ntmps15
        go_wp2_with fail
        clear hwn
        refine HC.out.mono ?_
        rintro e w' ⟨rfl, rfl⟩
        go_wp2_with fail
        refine (CM.out _ NA.out NB.out).mono ?_
        rintro e w2 ⟨rfl, hb⟩
        replace NA := Lib.hid (NA.out.below hb)
        replace NB := Lib.hid (NB.out.below hb)
        replace HW := Lib.hid (HW.out.trans (hb.mono HW.out.size))
        clear hb
        go_wp2_with fail
        refine (PZ.out _ NA.out).mono ?_
        rintro e w' ⟨rfl, rfl⟩
        go_wp2_with fail
        refine (trim_nn NB.out).mono ?_
        rintro e w' ⟨x, rfl, hx, rfl⟩
        obtain ⟨a3, c3, rfl⟩ := pv_none hx
        clear hx
        go_wp2_with fail
        refine (takeFrom_none a3 c3 _).mono ?_
        rintro e w' ⟨rfl, rfl⟩
        go_wp2_with fail
        refine (AW.out _).mono ?_
        rintro e w3 ⟨r, rfl, hx, hy, hb⟩
        have HF := Lib.hid (And.intro (hx rfl) (HW.out.trans (hb.mono HW.out.size)))
        clear hx hy hb
        go_wp2
        go_ret2
        exact ⟨r, rfl, fun _ => HF.out.1, fun h => absurd rfl h, HF.out.2⟩
      · have PW := Lib.hid (fun w' (hx : NN A (.slice a n ca) w') => plain_w hx hA0)
        have HLE := Lib.hid (And.intro hle (And.intro hLA hcd))
        clear hle hA0 hLA hcd
        go_enter Try.func15, Try.ntmps15
        go_wp2_with fail
        clear hwn
        refine HC.out.mono ?_
        rintro e w' ⟨rfl, rfl⟩
        go_wp2_with fail
        refine (CM.out _ NA.out NB.out).mono ?_
        rintro e w2 ⟨rfl, hb⟩
        replace NA := Lib.hid (NA.out.below hb)
        replace NB := Lib.hid (NB.out.below hb)
        replace HW := Lib.hid (HW.out.trans (hb.mono HW.out.size))
        clear hb
        obtain ⟨x, hx, hT⟩ := trim_fix NB.out
        have HX := Lib.hid hx
        have HT := Lib.hid hT
        clear hx hT NB
        go_wp2_with fail
        refine (PW.out _ NA.out).mono ?_
        rintro e w3 ⟨S, n2, f2, rfl, hW, hf2, hv2, ht2, hS, hb⟩
        have hn2 : n2 ≤ K := pv_few hf2 ht2 hv2 HLE.out.2.1
        have TF := Lib.hid (takeFrom_wr (w0 := w2) (by omega) hW hf2 hv2 HX.out hS hb HLE.out.1)
        have TR := Lib.hid (HT.out w3 hb)
        have HS := Lib.hid (Nat.le_trans HW.out.size hS)
        replace HW := Lib.hid (HW.out.trans (hb.mono HW.out.size))
        clear hW hf2 hv2 ht2 hS hb hn2 HT PW NA CM
        have AW := Lib.hid (fun v w' (hx : NN (A - B) v w') => answer_nn (K := K) (by omega) (Nat.lt_of_le_of_lt (Nat.sub_le _ _) HLE.out.2.1) hx)
        clear hK
        go_wp2_with fail
        refine TR.out.mono ?_
        rintro e w' ⟨rfl, rfl⟩
        go_wp2_with fail
        refine TF.out.mono ?_
        rintro e w4 ⟨rfl, hn4, hbut⟩
        have NR := Lib.hid hn4
        replace HW := Lib.hid (But.below HW.out hbut HS.out)
        clear hn4 hbut TF TR HX
        go_wp2_with fail
        refine (AW.out _ _ NR.out).mono ?_
        rintro e w5 ⟨r, rfl, hx, hy, hb⟩
        have HF := Lib.hid (And.intro (hx rfl) (HW.out.trans (hb.mono HW.out.size)))
        clear hx hy hb
        go_wp2
        go_ret2
        exact ⟨r, rfl, fun _ => HF.out.1, fun h => absurd rfl h, HF.out.2⟩
  · rw [if_neg h0]
    have e0 : ((c : Int) != 0) = true := by simp [h0]
    have H0 := Lib.hid h0
    clear hc h0 ha hav
    go_enter Try.func15, Try.ntmps15
    go_wp2_with fail
    clear hwn
    refine HC.out.mono ?_
    rintro e w' ⟨rfl, rfl⟩
    go_wp2
    go_ret2
    exact ⟨_, rfl, fun h => absurd h H0.out, fun _ => rfl, HW.out⟩
end Go.Proofs.Ytgegkffigjogcaa
namespace Go.Proofs.Ytgegkffigjogcaa
open Go.RowKit

theorem row_below {w w' : World} {base n : Nat} {e : TypeId} {v : Value} {xs : List Value} (h : w.ownsRow base e 1 v n xs) (hb : Below w.heap.size w w') : w'.ownsRow base e 1 v n xs := by
  refine ⟨h.1, ?_⟩
  rcases h.2 with h1 | ⟨g, cap, cur, h1, h2, h3, h4⟩
  · exact .inl h1
  · exact .inr ⟨g, cap, cur, h1, h2, (hb.block g (Array.getElem?_eq_some_iff.1 h3).1).trans h3, h4⟩
theorem plain_anf {V : Nat} {v : Value} {w : World} (h : AN V v w) : Calls Try.prog 25 #[v] w fun e w' => ∃ g n cap f, e = .returned (.slice (some ⟨g, 0, none⟩) n cap) ∧ w.heap.size ≤ g ∧ NvA w' (some ⟨g, 0, none⟩) n cap f ∧ vb 4294967296 f n = V ∧ (n = 0 ∨ f (n - 1) ≠ 0) ∧ Below w.heap.size w w' := by
  obtain ⟨n, f, ⟨a, cap, rfl, hc, hn0, hr⟩, hn, hf, rfl⟩ := h
  have hl := tn_le f n
  have key : ∀ {m : Nat}, m = tn f n → ∀ {e : Ending} {w' : World}, MkR m f w e w' → ∃ g n' cap f', e = .returned (.slice (some ⟨g, 0, none⟩) n' cap) ∧ w.heap.size ≤ g ∧ NvA w' (some ⟨g, 0, none⟩) n' cap f' ∧ vb 4294967296 f' n' = vb 4294967296 f n ∧ (n' = 0 ∨ f' (n' - 1) ≠ 0) ∧ Below w.heap.size w w' := by
    rintro m rfl e w' ⟨g, c, rfl, h1, h2⟩
    have h3 := rp_of h1 (by omega) (fun j hj => hf j (by omega)) (tn_top f n)
    obtain ⟨g', n', c', f', e', q1, q2, q3⟩ := h3
    injection e' with e1 e2 e3
    injection e1 with e1
    injection e1 with e1
    subst e1 e2 e3
    refine ⟨g, _, c, f', rfl, ?_, q1, by rw [q2, vb_tn], q3, h2⟩
    rcases h1.2 with ⟨h4, -⟩ | ⟨g2, cap2, cur, h4, h5, -⟩
    · cases h4
    · injection h4 with h4
      injection h4 with h4
      injection h4 with h4
      rw [h4]; exact h5
  cases a with
  | none =>
    have h0 := hn0 rfl
    subst h0
    obtain rfl : n = 0 := by omega
    exact (refplainr_none f w).mono fun e w' h => key rfl h
  | some q => exact (refplainr_some q n cap f hn hc w hr).mono fun e w' h => key rfl h
/-- The parts of a list, noughts behind them. -/
def padP (g : Nat → Nat) (m k : Nat) : Nat := if k < m then g k else 0
theorem vb_padP (g : Nat → Nat) (m : Nat) : ∀ k, m ≤ k → vb 4294967296 (padP g m) k = vb 4294967296 g m := fun k h => by
  obtain ⟨d, rfl⟩ : ∃ d, k = m + d := ⟨k - m, by omega⟩
  rw [vb_split, vb_zero (n := d) (fun j _ => by unfold padP; rw [if_neg (by omega)]), Nat.mul_zero, Nat.add_zero]
  exact vb_congr (fun j hj => by unfold padP; rw [if_pos hj])
/-- The difference under way: k parts of it stand. -/
structure SubI (w0 : World) (base gx gy n m k c : Nat) (f g : Nat → Nat) (ov : Value) (wr : World) : Prop where
  c1 : c ≤ 1
  row : ∃ ns, wr.ownsRow base 32 1 ov k (pl ns k) ∧ (∀ j, j < k → ns j < 4294967296) ∧ vb 4294967296 ns k + vb 4294967296 (padP g m) k = vb 4294967296 f k + 4294967296 ^ k * c
  rx : RdA wr (some ⟨gx, 0, none⟩) n f
  ry : RdA wr (some ⟨gy, 0, none⟩) m g
  bx : gx < wr.heap.size
  by_ : gy < wr.heap.size
  far : ∃ g' cap, ov = .slice (some ⟨g', 0, none⟩) k cap ∧ g' ≠ gx ∧ g' ≠ gy
  old : Below base w0 wr
theorem far_rd {w w' : World} {gx n g' : Nat} {f : Nat → Nat} (h : RdA w (some ⟨gx, 0, none⟩) n f) (hg : w.grownBy w' (some g')) (hn : g' ≠ gx) (hb : gx < w.heap.size) : RdA w' (some ⟨gx, 0, none⟩) n f := by
  rcases h with h | ⟨b, o, e, hp⟩
  · exact .inl h
  · injection e with e
    injection e with e1 e2
    subst e1 e2
    refine .inr ⟨gx, 0, rfl, ?_, fun j hj => ?_⟩
    · have := hg.size; omega
    · rw [hg.cell_far ⟨gx, 0 + j, none⟩ hb (by intro e; injection e with e; exact hn e.symm)]
      exact hp.2 j hj
theorem SubI.next {w0 wr w1 : World} {base gx gy n m k c c' s gg cap g0 cap0 : Nat} {f g ns : Nat → Nat} {X : Value} (h : SubI w0 base gx gy n m k c f g (.slice (some ⟨g0, 0, none⟩) k cap0) wr) (hbase : base ≤ wr.heap.size) (hs : s < 4294967296) (hc : c' ≤ 1) (e : s + padP g m k + c = f k + 4294967296 * c')
    (hrow : wr.ownsRow base 32 1 (.slice (some ⟨g0, 0, none⟩) k cap0) k (pl ns k)) (hns : ∀ j, j < k → ns j < 4294967296) (hv : vb 4294967296 ns k + vb 4294967296 (padP g m) k = vb 4294967296 f k + 4294967296 ^ k * c) (hx : g0 ≠ gx) (hy : g0 ≠ gy)
    (hown : w1.ownsRow base 32 1 (.slice (some ⟨gg, 0, none⟩) (k + 1) cap) (k + 1) (pl ns k ++ [.int .u32 (s : Int)])) (hgrow : (wr.alloc (.cells #[X] 32)).grownBy w1 (some g0)) (hat : some g0 = some gg ∨ gg = wr.heap.size + 1) :
    SubI w0 base gx gy n m (k + 1) c' f g (.slice (some ⟨gg, 0, none⟩) (k + 1) cap) w1 := by
  have hpl : pl ns k ++ [.int .u32 (s : Int)] = pl (upd ns k s) (k + 1) := by
    unfold pl
    rw [List.range_succ, List.map_append]
    congr 1
    · apply List.map_congr_left
      intro j hj
      have : j < k := by simpa using hj
      simp [upd, show ¬ j = k by omega]
    · simp [upd]
  rw [hpl] at hown
  have ha : Below wr.heap.size wr (wr.alloc (.cells #[X] 32)) := (Below.refl _ _).alloc (Nat.le_refl _) _
  refine ⟨hc, ⟨upd ns k s, hown, fun j hj => ?_, ?_⟩, far_rd (h.rx.below ha) hgrow hx (Nat.lt_of_lt_of_le h.bx ha.size), far_rd (h.ry.below ha) hgrow hy (Nat.lt_of_lt_of_le h.by_ ha.size), ?_, ?_, ⟨gg, cap, rfl, ?_, ?_⟩, ?_⟩
  · unfold upd
    by_cases e : j = k
    · rw [if_pos e]; exact hs
    · rw [if_neg e]; exact hns j (by omega)
  · simp only [vb]
    rw [vb_congr (f := upd ns k s) (g := ns) (fun j hj => by unfold upd; rw [if_neg (by omega)]), show upd ns k s k = s by unfold upd; rw [if_pos rfl], Nat.pow_succ]
    exact sub_step hv (by omega)
  · have h1 := hgrow.size; have h2 := ha.size; have h3 := h.bx; omega
  · have h1 := hgrow.size; have h2 := ha.size; have h3 := h.by_; omega
  · have h3 := h.bx
    rcases hat with e | e
    · injection e with e; rw [← e]; exact hx
    · omega
  · have h3 := h.by_
    rcases hat with e | e
    · injection e with e; rw [← e]; exact hy
    · omega
  · refine (h.old.alloc hbase _).grown hgrow (by have := ha.size; omega) (fun j hj => ?_)
    cases hj
    exact (hrow.lt g0 rfl).1
set_option maxRecDepth 100000 in
set_option maxHeartbeats 4000000 in
theorem rsub_main {A B K : Nat} {u v : Value} {w : World} (hK : K ≤ 10000) (kA : A < 4294967296 ^ K) (kB : B < 4294967296 ^ K) (hc : cd2 A B = 0) (hle : B ≤ A) (hA : AN A u w) (hB : AN B v w) : Calls Try.prog 16 #[u, v] w (AnsR 0 (A - B) w) := by
  have HB := Lib.hid (both_an hA hB)
  rw [hc] at HB
  have UA := Lib.hid hA
  have UB := Lib.hid hB
  have CM := Lib.hid (fun w' (hx : AN A u w') (hy : AN B v w') => rcmp_an (by omega) kA kB hx hy)
  obtain ⟨s, hs⟩ : ∃ s, sgn A B = s := ⟨_, rfl⟩
  have hs0 : ¬ s < 0 := by rw [← hs]; unfold sgn; rw [if_neg (by omega)]; split <;> omega
  rw [hs] at CM
  have PN := Lib.hid (fun V x w' (hx : AN V x w') => plain_anf hx)
  have KA := Lib.hid kA
  have HLE := Lib.hid hle
  obtain ⟨i0, hi, hz0, hz1, hz2⟩ := info_parts info32
  clear hs hA hB hc kA kB hle
  go_enter Try.func16, Try.ntmps16
  have HW : Hid (Below w.heap.size w w) := Lib.hid (Below.refl _ _)
  go_wp2_with fail
  refine (HB.out).mono ?_
  rintro e wn ⟨rfl, hb⟩
  replace UA := Lib.hid (UA.out.below hb)
  replace UB := Lib.hid (UB.out.below hb)
  replace HW := Lib.hid (HW.out.trans (hb.mono HW.out.size))
  clear hb
  go_wp2_with fail
  refine (CM.out _ UA.out UB.out).mono ?_
  rintro e wn ⟨rfl, hb⟩
  replace UA := Lib.hid (UA.out.below hb)
  replace UB := Lib.hid (UB.out.below hb)
  replace HW := Lib.hid (HW.out.trans (hb.mono HW.out.size))
  clear hb
  clear CM HB
  obtain ⟨wm, hwm⟩ : ∃ wm, wn.alloc (.cells #[] 32) = wm := ⟨_, rfl⟩
  have hb : Below wn.heap.size wn wm := by rw [← hwm]; exact (Below.refl _ _).alloc (Nat.le_refl _) _
  have hrow : wm.ownsRow wn.heap.size 32 1 (.slice (some ⟨wn.heap.size, 0, none⟩) 0 0) 0 (pl (fun _ => 0) 0) := by rw [← hwm]; exact World.ownsRow_made (base := wn.heap.size) (e := 32) (size := 1) wn #[] 0 (by simp) (by decide) (by simp)
  obtain ⟨gb, hgb⟩ : ∃ gb, wn.heap.size = gb := ⟨_, rfl⟩
  replace UA := Lib.hid (UA.out.below hb)
  replace UB := Lib.hid (UB.out.below hb)
  have HW0 := HW
  have hgl : w.heap.size ≤ gb := by rw [← hgb]; exact HW.out.size
  have HGL := Lib.hid hgl
  have HB0 : Hid (Below gb wn wm) := Lib.hid (by rw [← hgb]; exact hb)
  have hgm : gb < wm.heap.size := by rw [← hgb, ← hwm]; simp
  rw [hgb] at hrow
  have ROW := Lib.hid hrow
  have HGM := Lib.hid hgm
  clear hb hrow hgl hgm HW
  go_wp2_with fail
  clear hwm hgb
  refine (PN.out _ _ _ UA.out).mono ?_
  rintro e w4 ⟨gx, n, cx, f, rfl, hgx, hnx, hvx, htx, hb⟩
  replace UB := Lib.hid (UB.out.below hb)
  replace ROW := Lib.hid (row_below ROW.out hb)
  replace HB0 := Lib.hid (HB0.out.trans (hb.mono (Nat.le_of_lt HGM.out)))
  have HGM4 := Lib.hid (Nat.lt_of_lt_of_le HGM.out hb.size)
  have HX := Lib.hid hnx
  have hnK : n ≤ K := pv_few hnx.lt htx hvx KA.out
  have HVX := Lib.hid (And.intro hvx (And.intro htx (Nat.lt_of_lt_of_le HGM.out hgx)))
  clear hb UA hgx hnx hvx htx
  go_wp2_with fail
  refine (PN.out _ _ _ UB.out).mono ?_
  rintro e w5 ⟨gy, m, cy, g, rfl, hgy, hny, hvy, hty, hb⟩
  replace HX := Lib.hid (HX.out.below hb)
  replace ROW := Lib.hid (row_below ROW.out hb)
  replace HB0 := Lib.hid (HB0.out.trans (hb.mono (Nat.le_of_lt HGM4.out)))
  have HY := Lib.hid hny
  have hmn : m ≤ n := (plain_len (P := 4294967296) (by omega) hny.lt hty).1 (by rw [hvy]; exact Nat.lt_of_le_of_lt HLE.out (by rw [← HVX.out.1]; exact vb_lt HX.out.lt))
  have HVY := Lib.hid (And.intro hvy (Nat.lt_of_lt_of_le HGM4.out hgy))
  clear hb UB PN hgy hny hvy hty
  have hn0 : (n : Int) ≤ 10000 := by omega
  have hm0 : (m : Int) ≤ 10000 := by omega
  go_wp2
  go_loopw [7, 8, 11] (fun ov bv iv wr => ∃ k c : Nat, k ≤ n ∧ iv = .int .i64 k ∧ bv = .int .u64 c ∧ Hid (SubI wn gb gx gy n m k c f g ov wr)) (fun _ _ iv _ => n - (intOf iv).toNat)
  case atStart => exact ⟨0, 0, Nat.zero_le _, rfl, rfl, Lib.hid ⟨by omega, ⟨fun _ => 0, ROW.out, fun j hj => by omega, rfl⟩, HX.out.rd, HY.out.rd, HX.out.blk _ rfl, HY.out.blk _ rfl, ⟨gb, 0, rfl, by have := HVX.out.2.2; omega, by have := HVY.out.2; omega⟩, HB0.out⟩⟩
  case round =>
    obtain ⟨k, c, hk, rfl, rfl, H⟩ := hrel
    have hk0 : (0 : Int) ≤ k := by omega
    have hkb : (k : Int) ≤ 10000 := by omega
    have hc1 := H.out.c1
    have hbase : gb ≤ wr.heap.size := by have := H.out.bx; have := HVX.out.2.2; omega
    obtain ⟨g0, cap0, rfl, hx, hy⟩ := H.out.far
    obtain ⟨ns, hrow, hns, hnv⟩ := H.out.row
    by_cases hlt : k < n
    · have hlt' : (k : Int) < n := by omega
      obtain ⟨px, hix, -, -, cpx⟩ := H.out.rx.at_ cx k hlt
      have hfk := HX.out.lt k hlt
      have hw1 : IntKind.u64.wrap ((f k : Nat) : Int) = ((f k : Nat) : Int) := by rw [IntKind.wrap_u64]; omega
      have HXY := Lib.hid (And.intro hx hy)
      have HNS := Lib.hid (And.intro hns hnv)
      have HROW := Lib.hid hrow
      have HBASE := Lib.hid hbase
      clear hx hy hns hnv hrow hbase
      by_cases hm : k < m
      · have hm' : (k : Int) < m := by omega
        obtain ⟨py, hiy, -, -, cpy⟩ := H.out.ry.at_ cy k hm
        have hgk := HY.out.lt k hm
        have hw2 : IntKind.u64.wrap ((g k : Nat) : Int) = ((g k : Nat) : Int) := by rw [IntKind.wrap_u64]; omega
        obtain ⟨sb, hsb⟩ : ∃ sb, c + g k = sb := ⟨_, rfl⟩
        have hw3 : IntKind.u64.wrap ((c : Int) + ((g k : Nat) : Int)) = (sb : Int) := by rw [IntKind.wrap_u64]; omega
        have hsp : padP g m k + c = sb := by unfold padP; rw [if_pos hm]; omega
        have hsbl : sb ≤ 4294967296 := by omega
        clear hgk hsb
        by_cases hlt2 : f k < sb
        · have hl' : ((f k : Nat) : Int) < (sb : Int) := by omega
          obtain ⟨fh, hfh⟩ : ∃ fh, f k + 4294967296 = fh := ⟨_, rfl⟩
          obtain ⟨s2, hs2⟩ : ∃ s2, fh - sb = s2 := ⟨_, rfl⟩
          have hw4 : IntKind.u64.wrap (((f k : Nat) : Int) + 4294967296) = (fh : Int) := by rw [IntKind.wrap_u64]; omega
          have hw5 : IntKind.u64.wrap ((fh : Int) - (sb : Int)) = (s2 : Int) := by rw [IntKind.wrap_u64]; omega
          have hw6 : IntKind.u32.wrap (s2 : Int) = (s2 : Int) := by rw [IntKind.wrap_u32]; omega
          have NX := Lib.hid (fun (w1 : World) (gg cap : Nat) (X : Value) hown hgrow hat => H.out.next (w1 := w1) (gg := gg) (cap := cap) (X := X) (s := s2) (c' := 1) HBASE.out (by omega) (by omega) (by omega) HROW.out HNS.out.1 HNS.out.2 HXY.out.1 HXY.out.2 hown hgrow hat)
          clear hfh hs2 hsp hsbl hfk hlt2 hc1
          have hbs := HBASE.out
          go_wp2_with (at_builtin; refine wpList_append_lies _ rfl _ _ 23 rfl gb 32 i0 (.int .u32 0) 1 4 Try.underlying23 hi hz0 hz1 hz2 rfl (by decide) (.slice (some ⟨g0, 0, none⟩) k cap0) k (pl ns k) rfl (HROW.out.alloc _) ⟨wr.heap.size, 0, none⟩ 1 1 [.int .u32 (s2 : Int)] rfl rfl (cell_one_new _ _ _) (by intro u hu; simp at hu; subst hu; rfl) (by omega) (by unfold maxLen; omega) (by omega) (by simp; omega) (wr.heap.size + 1) (by simp) ?_; intro gg cap' w1 hown1 hgrow hat hlt1)
          have HN := Lib.hid (NX.out _ _ _ _ hown1 hgrow hat)
          clear hown1 hgrow hat hlt1 NX H HROW HNS
          go_wp2
          go_roundw
          case rel => exact ⟨k + 1, 1, by omega, by go_num, rfl, HN⟩
          case measure => simp [intOf]; omega
        · have hl' : ¬ ((f k : Nat) : Int) < (sb : Int) := by omega
          obtain ⟨s2, hs2⟩ : ∃ s2, f k - sb = s2 := ⟨_, rfl⟩
          have hw5 : IntKind.u64.wrap (((f k : Nat) : Int) - (sb : Int)) = (s2 : Int) := by rw [IntKind.wrap_u64]; omega
          have hw6 : IntKind.u32.wrap (s2 : Int) = (s2 : Int) := by rw [IntKind.wrap_u32]; omega
          have NX := Lib.hid (fun (w1 : World) (gg cap : Nat) (X : Value) hown hgrow hat => H.out.next (w1 := w1) (gg := gg) (cap := cap) (X := X) (s := s2) (c' := 0) HBASE.out (by omega) (by omega) (by omega) HROW.out HNS.out.1 HNS.out.2 HXY.out.1 HXY.out.2 hown hgrow hat)
          clear hs2 hsp hsbl hfk hlt2 hc1
          have hbs := HBASE.out
          go_wp2_with (at_builtin; refine wpList_append_lies _ rfl _ _ 23 rfl gb 32 i0 (.int .u32 0) 1 4 Try.underlying23 hi hz0 hz1 hz2 rfl (by decide) (.slice (some ⟨g0, 0, none⟩) k cap0) k (pl ns k) rfl (HROW.out.alloc _) ⟨wr.heap.size, 0, none⟩ 1 1 [.int .u32 (s2 : Int)] rfl rfl (cell_one_new _ _ _) (by intro u hu; simp at hu; subst hu; rfl) (by omega) (by unfold maxLen; omega) (by omega) (by simp; omega) (wr.heap.size + 1) (by simp) ?_; intro gg cap' w1 hown1 hgrow hat hlt1)
          have HN := Lib.hid (NX.out _ _ _ _ hown1 hgrow hat)
          clear hown1 hgrow hat hlt1 NX H HROW HNS
          go_wp2
          go_roundw
          case rel => exact ⟨k + 1, 0, by omega, by go_num, rfl, HN⟩
          case measure => simp [intOf]; omega
      · have hm' : ¬ (k : Int) < m := by omega
        obtain ⟨sb, hsb⟩ : ∃ sb, c = sb := ⟨_, rfl⟩
        have hsp : padP g m k + c = sb := by unfold padP; rw [if_neg hm]; omega
        have hsbl : sb ≤ 4294967296 := by omega
        by_cases hlt2 : f k < sb
        · have hl' : ((f k : Nat) : Int) < (sb : Int) := by omega
          obtain ⟨fh, hfh⟩ : ∃ fh, f k + 4294967296 = fh := ⟨_, rfl⟩
          obtain ⟨s2, hs2⟩ : ∃ s2, fh - sb = s2 := ⟨_, rfl⟩
          have hw4 : IntKind.u64.wrap (((f k : Nat) : Int) + 4294967296) = (fh : Int) := by rw [IntKind.wrap_u64]; omega
          have hw5 : IntKind.u64.wrap ((fh : Int) - (sb : Int)) = (s2 : Int) := by rw [IntKind.wrap_u64]; omega
          have hw6 : IntKind.u32.wrap (s2 : Int) = (s2 : Int) := by rw [IntKind.wrap_u32]; omega
          have NX := Lib.hid (fun (w1 : World) (gg cap : Nat) (X : Value) hown hgrow hat => H.out.next (w1 := w1) (gg := gg) (cap := cap) (X := X) (s := s2) (c' := 1) HBASE.out (by omega) (by omega) (by omega) HROW.out HNS.out.1 HNS.out.2 HXY.out.1 HXY.out.2 hown hgrow hat)
          clear hfh hs2 hsp hsbl hfk hlt2 hc1
          have hbs := HBASE.out
          go_wp2_with (at_builtin; refine wpList_append_lies _ rfl _ _ 23 rfl gb 32 i0 (.int .u32 0) 1 4 Try.underlying23 hi hz0 hz1 hz2 rfl (by decide) (.slice (some ⟨g0, 0, none⟩) k cap0) k (pl ns k) rfl (HROW.out.alloc _) ⟨wr.heap.size, 0, none⟩ 1 1 [.int .u32 (s2 : Int)] rfl rfl (cell_one_new _ _ _) (by intro u hu; simp at hu; subst hu; rfl) (by omega) (by unfold maxLen; omega) (by omega) (by simp; omega) (wr.heap.size + 1) (by simp) ?_; intro gg cap' w1 hown1 hgrow hat hlt1)
          have HN := Lib.hid (NX.out _ _ _ _ hown1 hgrow hat)
          clear hown1 hgrow hat hlt1 NX H HROW HNS
          go_wp2
          go_roundw
          case rel => exact ⟨k + 1, 1, by omega, by go_num, rfl, HN⟩
          case measure => simp [intOf]; omega
        · have hl' : ¬ ((f k : Nat) : Int) < (sb : Int) := by omega
          obtain ⟨s2, hs2⟩ : ∃ s2, f k - sb = s2 := ⟨_, rfl⟩
          have hw5 : IntKind.u64.wrap (((f k : Nat) : Int) - (sb : Int)) = (s2 : Int) := by rw [IntKind.wrap_u64]; omega
          have hw6 : IntKind.u32.wrap (s2 : Int) = (s2 : Int) := by rw [IntKind.wrap_u32]; omega
          have NX := Lib.hid (fun (w1 : World) (gg cap : Nat) (X : Value) hown hgrow hat => H.out.next (w1 := w1) (gg := gg) (cap := cap) (X := X) (s := s2) (c' := 0) HBASE.out (by omega) (by omega) (by omega) HROW.out HNS.out.1 HNS.out.2 HXY.out.1 HXY.out.2 hown hgrow hat)
          clear hs2 hsp hsbl hfk hlt2 hc1
          have hbs := HBASE.out
          go_wp2_with (at_builtin; refine wpList_append_lies _ rfl _ _ 23 rfl gb 32 i0 (.int .u32 0) 1 4 Try.underlying23 hi hz0 hz1 hz2 rfl (by decide) (.slice (some ⟨g0, 0, none⟩) k cap0) k (pl ns k) rfl (HROW.out.alloc _) ⟨wr.heap.size, 0, none⟩ 1 1 [.int .u32 (s2 : Int)] rfl rfl (cell_one_new _ _ _) (by intro u hu; simp at hu; subst hu; rfl) (by omega) (by unfold maxLen; omega) (by omega) (by simp; omega) (wr.heap.size + 1) (by simp) ?_; intro gg cap' w1 hown1 hgrow hat hlt1)
          have HN := Lib.hid (NX.out _ _ _ _ hown1 hgrow hat)
          clear hown1 hgrow hat hlt1 NX H HROW HNS
          go_wp2
          go_roundw
          case rel => exact ⟨k + 1, 0, by omega, by go_num, rfl, HN⟩
          case measure => simp [intOf]; omega
    · obtain rfl : k = n := by omega
      have hlt' : ¬ (k : Int) < k := by omega
      have hvl := vb_lt hns
      rw [vb_padP g m k hmn, HVX.out.1, HVY.out.1] at hnv
      have hc0 : c = 0 := by
        have := HLE.out
        rcases Nat.eq_zero_or_pos c with h | h
        · exact h
        · obtain rfl : c = 1 := by omega
          rw [Nat.mul_one] at hnv
          omega
      have hAN := rp_of' hrow (by omega) hns
      have hval : vb 4294967296 ns k = A - B := by rw [hc0, Nat.mul_zero, Nat.add_zero] at hnv; omega
      rw [hval] at hAN
      have NA := Lib.hid hAN
      have HW := Lib.hid (HW0.out.trans (H.out.old.mono HGL.out))
      clear hval hAN hc0 hvl hnv hns hrow hx hy hbase H hc1
      go_wp2_with fail
      refine (plain_an NA.out).mono ?_
      rintro e w9 ⟨r, rfl, hr, hb⟩
      have HF := Lib.hid (And.intro hr (HW.out.trans (hb.mono HW.out.size)))
      clear hr hb
      go_wp2
      go_ret2
      exact ⟨r, rfl, fun _ => HF.out.1, fun h => absurd rfl h, HF.out.2⟩
set_option maxRecDepth 100000 in
set_option maxHeartbeats 1000000 in
-- WHAT THE REFERENCE's Sub COMES TO.
theorem rsub_an {A B : Nat} {u v : Value} {w : World} (hA : AN A u w) (hB : AN B v w) : Calls Try.prog 16 #[u, v] w (AnsR (cdS A B) (A - B) w) := by
  unfold cdS
  obtain ⟨c, hc⟩ : ∃ c, cd2 A B = c := ⟨_, rfl⟩
  rw [hc]
  obtain ⟨K, hK, eL⟩ := lim_pow
  have HB := Lib.hid (both_an hA hB)
  rw [hc] at HB
  by_cases h0 : c = 0
  · rw [if_pos h0]
    have hL := cd2_zero (hc.trans h0)
    rw [eL] at hL
    by_cases hlt : A < B
    · rw [if_pos hlt]
      have CM := Lib.hid (fun w' (hx : AN A u w') (hy : AN B v w') => rcmp_an (K := K) (by omega) hL.1 hL.2 hx hy)
      rw [sgn_lt hlt] at CM
      have e0 : ((c : Int) != 0) = false := by simp [h0]
      have UA := Lib.hid hA
      have UB := Lib.hid hB
      clear hA hB hc h0 hL hlt hK eL
      go_enter Try.func16, Try.ntmps16
      go_wp2_with fail
      refine HB.out.mono ?_
      rintro e wn ⟨rfl, hb⟩
      replace UA := Lib.hid (UA.out.below hb)
      replace UB := Lib.hid (UB.out.below hb)
      have HW := Lib.hid hb
      clear hb
      go_wp2_with fail
      refine (CM.out _ UA.out UB.out).mono ?_
      rintro e wn ⟨rfl, hb⟩
      replace HW := Lib.hid (HW.out.trans (hb.mono HW.out.size))
      clear hb
      go_wp2
      go_ret2
      exact ⟨_, rfl, fun h => absurd h (by decide), fun _ => rfl, HW.out⟩
    · rw [if_neg hlt]
      exact rsub_main (K := K) (by omega) hL.1 hL.2 (hc.trans h0) (by omega) hA hB
  · rw [if_neg h0]
    have e0 : ((c : Int) != 0) = true := by simp [h0]
    have H0 := Lib.hid h0
    clear hA hB hc h0 hK eL
    go_enter Try.func16, Try.ntmps16
    go_wp2_with fail
    refine HB.out.mono ?_
    rintro e wn ⟨rfl, hb⟩
    have HW := Lib.hid hb
    clear hb
    go_wp2
    go_ret2
    exact ⟨_, rfl, fun h => absurd h H0.out, fun _ => rfl, HW.out⟩
end Go.Proofs.Ytgegkffigjogcaa
namespace Go.Proofs.Ytgegkffigjogcaa
open Go.RowKit

theorem Wr.put {w : World} {S L : Nat} {f : Nat → Nat} (h : Wr w S 0 L f) (hf : ∀ j, j < L → f j < 4294967296) (j y : Nat) (hj : j < L) (hy : y < 4294967296) : ∃ g, Wr (w.setCell ⟨S, j, none⟩ (.int .u32 (y : Nat))) S 0 L g ∧ ∀ j, j < L → g j < 4294967296 := by
  have h1 : (w.cell? ⟨S, 0 + j + 0, none⟩).isSome = true := by
    have := (h.2 j hj).1
    rw [Nat.add_zero, this]; rfl
  have h2 := (HoldsN.start S (0 + j) (fun _ => 0) w).next y h1
  have h3 := h2.splice h (by omega)
  rw [Nat.add_zero, Nat.zero_add] at h3
  exact ⟨_, h3, spl_lt hf (fun i hi => by unfold upd; split <;> omega)⟩
theorem Wr.at0 {w : World} {S L : Nat} {f : Nat → Nat} (h : Wr w S 0 L f) (j : Nat) (hj : j < L) : w.cell? ⟨S, j, none⟩ = some (.int .u32 (f j : Nat)) ∧ w.frozen? ⟨S, j, none⟩ = false := by
  have := h.2 j hj
  rwa [Nat.zero_add] at this
theorem Wr.an {w : World} {S L : Nat} {f : Nat → Nat} (h : Wr w S 0 L f) (hL : (L : Int) ≤ 35184372088832) (hf : ∀ j, j < L → f j < 4294967296) : AN (vb 4294967296 f L) (.slice (some ⟨S, 0, none⟩) L L) w :=
  ⟨L, f, ⟨_, L, rfl, Nat.le_refl _, (fun h => by cases h), h.rd⟩, hL, hf, rfl⟩
theorem two_an (w : World) (x y V : Nat) (t : TypeId) (hx : x < 4294967296) (hy : y < 4294967296) (hV : x + 4294967296 * y = V) : AN V (.slice (some ⟨w.heap.size, 0, none⟩) 2 2) (w.alloc (.cells #[.int .u32 (x : Nat), .int .u32 (y : Nat)] t)) :=
  ⟨2, fun j => if j = 0 then x else y, ⟨_, 2, rfl, Nat.le_refl _, (fun h => by cases h), .inr ⟨w.heap.size, 0, rfl, by simp, fun j hj => by
    have h : j = 0 ∨ j = 1 := by omega
    rcases h with rfl | rfl
    · rw [cell_of_row _ _ _ _ _ _ (heap_alloc_new _ _)]; rfl
    · rw [cell_of_row _ _ _ _ _ _ (heap_alloc_new _ _)]; rfl⟩⟩, by omega, fun j _ => by
      by_cases e : j = 0
      · simp only [e, if_true]; exact hx
      · simp only [e, if_false]; exact hy, by simp [vb]; omega⟩
theorem AN.nnb {V : Nat} {g n c : Nat} {w : World} (h : AN V (.slice (some ⟨g, 0, none⟩) n c) w) (hg : g < w.heap.size) : NN V (.slice (some ⟨g, 0, none⟩) n c) w := by
  obtain ⟨n', f, ⟨a, cap, e, h1, h2, h3⟩, h4, h5, h6⟩ := h
  injection e with e1 e2 e3
  subst e1 e2 e3
  exact ⟨_, n, c, f, rfl, ⟨h1, h3, fun q hq => by cases hq; exact hg, h5, h4⟩, h6⟩
/-- A number, or 0 where it can't be told. -/
def vz (c V : Nat) : Nat := if c = 0 then V else 0
theorem ans_vz {c V : Nat} {w w' : World} {e : Ending} (h : Ans c V w e w') : ∃ v, e = .returned (.tuple #[v, .int .i64 (c : Nat)]) ∧ PV (vz c V) v w' ∧ Below w.heap.size w w' := by
  obtain ⟨v, rfl, h1, h2, h3⟩ := h
  refine ⟨v, rfl, ?_, h3⟩
  unfold vz
  by_cases e : c = 0
  · rw [if_pos e]; exact h1 e
  · rw [if_neg e, h2 e]; exact pv_nil _
theorem ansr_vz {c V : Nat} {w w' : World} {e : Ending} (h : AnsR c V w e w') : ∃ v, e = .returned (.tuple #[v, .int .i64 (c : Nat)]) ∧ PV (vz c V) v w' ∧ Below w.heap.size w w' := by
  obtain ⟨v, rfl, h1, h2, h3⟩ := h
  refine ⟨v, rfl, ?_, h3⟩
  unfold vz
  by_cases e : c = 0
  · rw [if_pos e]; exact (h1 e).pv
  · rw [if_neg e, h2 e]; exact pv_nil _
theorem chk_nn {A : Nat} {u : Value} {w : World} (hu : NN A u w) : Calls Try.prog 22 #[u] w fun e w' => e = .returned (.int .i64 ((cdN A : Nat) : Int)) ∧ Below w.heap.size w w' := by
  obtain ⟨a, n, ca, f, rfl, ha, rfl⟩ := hu
  exact (check_nv ha).mono fun e w' ⟨he, hd⟩ => ⟨he, by rw [← hd]; exact Below.refl _ _⟩
set_option maxRecDepth 100000 in
set_option maxHeartbeats 8000000 in
theorem long_any (w : World) (k lo hi : Nat) (hk : k < 65536) (hlo : lo < 4294967296) (hhi : hi < 4294967296) :
    Calls Try.prog 4 #[.int .u16 (k : Nat), .int .u32 (lo : Nat), .int .u32 (hi : Nat)] w fun e w' => e = .returned (.bool true) ∧ Below w.heap.size w w' := by
  obtain ⟨m, hm⟩ : ∃ m, k % 1100 = m := ⟨_, rfl⟩
  obtain ⟨L, hL⟩ : ∃ L : Nat, 1 + (m : Int) = (L : Int) := ⟨1 + m, by omega⟩
  have t1 : (k : Int).tmod 1100 = (m : Int) := by rw [Int.tmod_eq_emod_of_nonneg (by omega)]; omega
  have t2 : (k : Int) % 1100 = (m : Int) := by omega
  have hLm : L = m + 1 := by omega
  have hL0 : (0 : Int) < L := by omega
  have hL00 : (0 : Int) ≤ L := by omega
  have hL1 : (L : Int) ≤ 1100 := by omega
  have T3 : Hid ((L : Int) - 1 = (m : Int)) := Lib.hid (by omega)
  have hm0 : (0 : Int) ≤ m := by omega
  have hmL : (m : Int) < L := by omega
  have hk0 : (0 : Int) ≤ k := by omega
  have hk1 : (k : Int) < 65536 := by omega
  obtain ⟨i0, hi0, hz0, hz1, hz2⟩ := info_parts info32
  have HLO := Lib.hid (And.intro hlo hhi)
  have HLM := Lib.hid hLm
  clear hlo hhi hm hk hLm
  go_enter Try.func4, Try.ntmps4
  go_wp2_with (at_make; refine wpList_make_full _ rfl _ _ 23 rfl w.heap.size 32 i0 (.int .u32 0) 1 Try.underlying23 hi0 hz0 hz1 .i64 .i64 _ _ L rfl rfl rfl rfl (by rw [hz2]; omega) (by unfold maxLen; omega) (Nat.le_refl _) ?_; intro w0 hown0 hgrow0; (have HW0 := Lib.hid (made_wr hown0 hgrow0)); clear hown0 hgrow0; (have c0 := (HW0.out.1.at0 0 (by omega)).1); (have f0 := (HW0.out.1.at0 0 (by omega)).2); (obtain ⟨g1, hW1, hg1⟩ := HW0.out.1.put (fun _ _ => by omega) 0 lo (by omega) HLO.out.1); (have c1 := (hW1.at0 m (by have := HLM.out; omega)).1); (have f1 := (hW1.at0 m (by have := HLM.out; omega)).2); (have HW1 := Lib.hid (And.intro hW1 hg1)); clear hW1 hg1; (have t3 := T3.out))
  obtain ⟨g2, hW2, hg2⟩ := HW1.out.1.put HW1.out.2 m hi (by have := HLM.out; omega) HLO.out.2
  have hW0 := HW0.out
  have hA := hW2.an (by omega) hg2
  have hS := hW2.1
  have HW : Hid (Below w.heap.size w _) := Lib.hid ((hW0.2.setCell (Nat.le_refl _) (.int .u32 (lo : Nat)) (p := ⟨w.heap.size, 0, none⟩)).setCell (p := ⟨w.heap.size, m, none⟩) (Nat.le_refl _) (.int .u32 (hi : Nat)))
  obtain ⟨A, eA⟩ : ∃ A, vb 4294967296 g2 L = A := ⟨_, rfl⟩
  rw [eA] at hA
  have UA := Lib.hid hA
  clear hW0 hW2 hg2 hA eA hS HW0 HW1
  obtain ⟨wn, hwn⟩ : ∃ wn, (w0.setCell ⟨w.heap.size, 0, none⟩ (.int .u32 (lo : Nat))).setCell ⟨w.heap.size, m, none⟩ (.int .u32 (hi : Nat)) = wn := ⟨_, rfl⟩
  rw [hwn] at UA HW
  obtain ⟨B, hB⟩ : ∃ B, 4294967296 = B := ⟨_, rfl⟩
  have HB := Lib.hid hB
  clear hB
  have A1 := Lib.hid (fun x y w' (hx : NN A x w') (hy : NN 1 y w') => (add_api hx hy).mono fun e w'' h => ans_vz h)
  have A2 := Lib.hid (fun x y w' (hx : AN A x w') (hy : AN 1 y w') => (radd_an hx hy).mono fun e w'' h => ansr_vz h)
  have M1 := Lib.hid (fun x y w' (hx : NN A x w') (hy : NN B y w') => (mul_api hx hy).mono fun e w'' h => ans_vz h)
  have M2 := Lib.hid (fun x y w' (hx : AN A x w') (hy : AN B y w') => (rmul_an hx hy).mono fun e w'' h => ansr_vz h)
  have K1 := Lib.hid (fun x w' (hx : NN A x w') => chk_nn hx)
  have K2 := Lib.hid (fun x w' (hx : AN A x w') => check_an hx)
  have L1 := Lib.hid (fun x w' (hx : NN A x w') => len_nn hx)
  have L2 := Lib.hid (fun x w' (hx : AN A x w') => rlen_an hx)
  obtain ⟨ca, hca⟩ : ∃ c, cdAdd A 1 = c := ⟨_, rfl⟩
  obtain ⟨cm, hcm⟩ : ∃ c, cdMul A B = c := ⟨_, rfl⟩
  obtain ⟨cn, hcn⟩ : ∃ c, cdN A = c := ⟨_, rfl⟩
  obtain ⟨bl, hbl⟩ : ∃ c, blN A = c := ⟨_, rfl⟩
  rw [hca] at A1 A2
  rw [hcm] at M1 M2
  rw [hcn] at K1 K2
  rw [hbl] at L1 L2
  clear hca hcm hcn hbl
  have e1 : ((ca : Int) == ca) = true := by simp
  have e2 : ((cm : Int) == cm) = true := by simp
  have e3 : ((cn : Int) == cn) = true := by simp
  have e4 : ((bl : Int) == bl) = true := by simp
  rw [hwn]
  clear hwn c0 f0 c1 f1
  refine (own_an UA.out).mono ?_
  rintro e wn ⟨x1, rfl, hx, hb⟩
  replace UA := Lib.hid (UA.out.below hb)
  replace HW := Lib.hid (HW.out.trans (hb.mono HW.out.size))
  have Nx1 := Lib.hid (hx)
  clear hb
  clear hx
  obtain ⟨wm, hwm⟩ : ∃ wm, wn.alloc (.cells #[.int .u32 1] 32) = wm := ⟨_, rfl⟩
  have hb : Below wn.heap.size wn wm := by rw [← hwm]; exact (Below.refl _ _).alloc (Nat.le_refl _) _
  have on_ : AN 1 (.slice (some ⟨wn.heap.size, 0, none⟩) 1 1) wm := by rw [← hwm]; exact (one_an wn 1 _ (by omega))
  have onn_ : NN 1 (.slice (some ⟨wn.heap.size, 0, none⟩) 1 1) wm := by rw [← hwm]; exact ((one_an wn 1 _ (by omega))).nnb (by simp)
  replace UA := Lib.hid (UA.out.below hb)
  replace Nx1 := Lib.hid (Nx1.out.below hb)
  replace HW := Lib.hid (HW.out.trans (hb.mono HW.out.size))
  have ON := Lib.hid on_
  have ONN := Lib.hid onn_
  clear hb on_ onn_
  obtain ⟨gb, hgb⟩ : ∃ gb, wn.heap.size = gb := ⟨_, rfl⟩
  rw [hgb] at ON ONN
  go_wp2_with fail
  clear hwm hgb
  refine (A1.out _ _ _ Nx1.out ONN.out).mono ?_
  rintro e wn ⟨x2, rfl, hx, hb⟩
  replace UA := Lib.hid (UA.out.below hb)
  replace HW := Lib.hid (HW.out.trans (hb.mono HW.out.size))
  have P2 := Lib.hid (hx)
  clear hb Nx1 ON ONN
  clear hx
  obtain ⟨wm, hwm⟩ : ∃ wm, wn.alloc (.cells #[.int .u32 1] 32) = wm := ⟨_, rfl⟩
  have hb : Below wn.heap.size wn wm := by rw [← hwm]; exact (Below.refl _ _).alloc (Nat.le_refl _) _
  have on_ : AN 1 (.slice (some ⟨wn.heap.size, 0, none⟩) 1 1) wm := by rw [← hwm]; exact (one_an wn 1 _ (by omega))
  have onn_ : NN 1 (.slice (some ⟨wn.heap.size, 0, none⟩) 1 1) wm := by rw [← hwm]; exact ((one_an wn 1 _ (by omega))).nnb (by simp)
  replace UA := Lib.hid (UA.out.below hb)
  replace P2 := Lib.hid (P2.out.below hb)
  replace HW := Lib.hid (HW.out.trans (hb.mono HW.out.size))
  have ON := Lib.hid on_
  have ONN := Lib.hid onn_
  clear hb on_ onn_
  obtain ⟨gb, hgb⟩ : ∃ gb, wn.heap.size = gb := ⟨_, rfl⟩
  rw [hgb] at ON ONN
  go_wp2_with fail
  clear hwm hgb
  refine (A2.out _ _ _ UA.out ON.out).mono ?_
  rintro e wn ⟨x3, rfl, hx, hb⟩
  replace UA := Lib.hid (UA.out.below hb)
  replace P2 := Lib.hid (P2.out.below hb)
  replace HW := Lib.hid (HW.out.trans (hb.mono HW.out.size))
  have P3 := Lib.hid (hx)
  clear hb ON ONN
  clear hx
  go_wp2_with fail
  refine (own_an UA.out).mono ?_
  rintro e wn ⟨x4, rfl, hx, hb⟩
  replace UA := Lib.hid (UA.out.below hb)
  replace P2 := Lib.hid (P2.out.below hb)
  replace P3 := Lib.hid (P3.out.below hb)
  replace HW := Lib.hid (HW.out.trans (hb.mono HW.out.size))
  have Nx4 := Lib.hid (hx)
  clear hb
  clear hx
  obtain ⟨wm, hwm⟩ : ∃ wm, wn.alloc (.cells #[.int .u32 0, .int .u32 1] 32) = wm := ⟨_, rfl⟩
  have hb : Below wn.heap.size wn wm := by rw [← hwm]; exact (Below.refl _ _).alloc (Nat.le_refl _) _
  have on_ : AN B (.slice (some ⟨wn.heap.size, 0, none⟩) 2 2) wm := by rw [← hwm]; exact (two_an wn 0 1 B _ (by omega) (by omega) (by rw [← HB.out]))
  have onn_ : NN B (.slice (some ⟨wn.heap.size, 0, none⟩) 2 2) wm := by rw [← hwm]; exact ((two_an wn 0 1 B _ (by omega) (by omega) (by rw [← HB.out]))).nnb (by simp)
  replace UA := Lib.hid (UA.out.below hb)
  replace P2 := Lib.hid (P2.out.below hb)
  replace P3 := Lib.hid (P3.out.below hb)
  replace Nx4 := Lib.hid (Nx4.out.below hb)
  replace HW := Lib.hid (HW.out.trans (hb.mono HW.out.size))
  have ON := Lib.hid on_
  have ONN := Lib.hid onn_
  clear hb on_ onn_
  obtain ⟨gb, hgb⟩ : ∃ gb, wn.heap.size = gb := ⟨_, rfl⟩
  rw [hgb] at ON ONN
  go_wp2_with fail
  clear hwm hgb
  refine (M1.out _ _ _ Nx4.out ONN.out).mono ?_
  rintro e wn ⟨x5, rfl, hx, hb⟩
  replace UA := Lib.hid (UA.out.below hb)
  replace P2 := Lib.hid (P2.out.below hb)
  replace P3 := Lib.hid (P3.out.below hb)
  replace HW := Lib.hid (HW.out.trans (hb.mono HW.out.size))
  have P5 := Lib.hid (hx)
  clear hb Nx4 ON ONN
  clear hx
  obtain ⟨wm, hwm⟩ : ∃ wm, wn.alloc (.cells #[.int .u32 0, .int .u32 1] 32) = wm := ⟨_, rfl⟩
  have hb : Below wn.heap.size wn wm := by rw [← hwm]; exact (Below.refl _ _).alloc (Nat.le_refl _) _
  have on_ : AN B (.slice (some ⟨wn.heap.size, 0, none⟩) 2 2) wm := by rw [← hwm]; exact (two_an wn 0 1 B _ (by omega) (by omega) (by rw [← HB.out]))
  have onn_ : NN B (.slice (some ⟨wn.heap.size, 0, none⟩) 2 2) wm := by rw [← hwm]; exact ((two_an wn 0 1 B _ (by omega) (by omega) (by rw [← HB.out]))).nnb (by simp)
  replace UA := Lib.hid (UA.out.below hb)
  replace P2 := Lib.hid (P2.out.below hb)
  replace P3 := Lib.hid (P3.out.below hb)
  replace P5 := Lib.hid (P5.out.below hb)
  replace HW := Lib.hid (HW.out.trans (hb.mono HW.out.size))
  have ON := Lib.hid on_
  have ONN := Lib.hid onn_
  clear hb on_ onn_
  obtain ⟨gb, hgb⟩ : ∃ gb, wn.heap.size = gb := ⟨_, rfl⟩
  rw [hgb] at ON ONN
  go_wp2_with fail
  clear hwm hgb
  refine (M2.out _ _ _ UA.out ON.out).mono ?_
  rintro e wn ⟨x6, rfl, hx, hb⟩
  replace UA := Lib.hid (UA.out.below hb)
  replace P2 := Lib.hid (P2.out.below hb)
  replace P3 := Lib.hid (P3.out.below hb)
  replace P5 := Lib.hid (P5.out.below hb)
  replace HW := Lib.hid (HW.out.trans (hb.mono HW.out.size))
  have P6 := Lib.hid (hx)
  clear hb ON ONN
  clear hx
  go_wp2_with fail
  refine (same_nn P2.out P3.out).mono ?_
  rintro e wn ⟨rfl, hb⟩
  replace UA := Lib.hid (UA.out.below hb)
  replace P5 := Lib.hid (P5.out.below hb)
  replace P6 := Lib.hid (P6.out.below hb)
  replace HW := Lib.hid (HW.out.trans (hb.mono HW.out.size))
  clear hb P2 P3
  go_wp2_with fail
  refine (same_nn P5.out P6.out).mono ?_
  rintro e wn ⟨rfl, hb⟩
  replace UA := Lib.hid (UA.out.below hb)
  replace HW := Lib.hid (HW.out.trans (hb.mono HW.out.size))
  clear hb P5 P6
  go_wp2_with fail
  refine (own_an UA.out).mono ?_
  rintro e wn ⟨x7, rfl, hx, hb⟩
  replace UA := Lib.hid (UA.out.below hb)
  replace HW := Lib.hid (HW.out.trans (hb.mono HW.out.size))
  have Nx7 := Lib.hid (hx)
  clear hb
  clear hx
  go_wp2_with fail
  refine (K1.out _ _ Nx7.out).mono ?_
  rintro e wn ⟨rfl, hb⟩
  replace UA := Lib.hid (UA.out.below hb)
  replace HW := Lib.hid (HW.out.trans (hb.mono HW.out.size))
  clear hb Nx7
  go_wp2_with fail
  refine (K2.out _ _ UA.out).mono ?_
  rintro e wn ⟨rfl, hb⟩
  replace UA := Lib.hid (UA.out.below hb)
  replace HW := Lib.hid (HW.out.trans (hb.mono HW.out.size))
  clear hb
  go_wp2_with fail
  refine (own_an UA.out).mono ?_
  rintro e wn ⟨x8, rfl, hx, hb⟩
  replace UA := Lib.hid (UA.out.below hb)
  replace HW := Lib.hid (HW.out.trans (hb.mono HW.out.size))
  have Nx8 := Lib.hid (hx)
  clear hb
  clear hx
  go_wp2_with fail
  refine (plain_nn Nx8.out).mono ?_
  rintro e wn ⟨x9, rfl, hx, hb⟩
  replace UA := Lib.hid (UA.out.below hb)
  replace HW := Lib.hid (HW.out.trans (hb.mono HW.out.size))
  have P9 := Lib.hid (hx)
  clear hb Nx8
  clear hx
  go_wp2_with fail
  refine (plain_an UA.out).mono ?_
  rintro e wn ⟨x10, rfl, hx, hb⟩
  replace UA := Lib.hid (UA.out.below hb)
  replace P9 := Lib.hid (P9.out.below hb)
  replace HW := Lib.hid (HW.out.trans (hb.mono HW.out.size))
  have P10 := Lib.hid (hx)
  clear hb
  clear hx
  go_wp2_with fail
  refine (same_nn P9.out P10.out.pv).mono ?_
  rintro e wn ⟨rfl, hb⟩
  replace UA := Lib.hid (UA.out.below hb)
  replace HW := Lib.hid (HW.out.trans (hb.mono HW.out.size))
  clear hb P9 P10
  go_wp2_with fail
  refine (own_an UA.out).mono ?_
  rintro e wn ⟨x11, rfl, hx, hb⟩
  replace UA := Lib.hid (UA.out.below hb)
  replace HW := Lib.hid (HW.out.trans (hb.mono HW.out.size))
  have Nx11 := Lib.hid (hx)
  clear hb
  clear hx
  go_wp2_with fail
  refine (L1.out _ _ Nx11.out).mono ?_
  rintro e wn ⟨rfl, hb⟩
  replace UA := Lib.hid (UA.out.below hb)
  replace HW := Lib.hid (HW.out.trans (hb.mono HW.out.size))
  clear hb Nx11
  go_wp2_with fail
  refine (L2.out _ _ UA.out).mono ?_
  rintro e wn ⟨rfl, hb⟩
  replace UA := Lib.hid (UA.out.below hb)
  replace HW := Lib.hid (HW.out.trans (hb.mono HW.out.size))
  clear hb
  go_wp2_with fail
  refine (lives_any _).mono ?_
  rintro e wn ⟨rfl, hb⟩
  replace UA := Lib.hid (UA.out.below hb)
  replace HW := Lib.hid (HW.out.trans (hb.mono HW.out.size))
  clear hb
  go_wp2
  go_ret
  exact ⟨rfl, HW.out⟩
theorem long_card {w : World} (k : Nat) (hk : k < 65536) (lo : Nat) (hlo : lo < 4294967296) (hi : Nat) (hhi : hi < 4294967296) :
    Calls Try.prog 4 #[.int .u16 (k : Nat), .int .u32 (lo : Nat), .int .u32 (hi : Nat)] w fun e w' => e = .returned (.bool true) ∧ Below w.heap.size w w' := long_any w k lo hi hk hlo hhi
end Go.Proofs.Ytgegkffigjogcaa
namespace Go.Proofs.Ytgegkffigjogcaa
open Go.RowKit

set_option maxRecDepth 100000 in
set_option maxHeartbeats 8000000 in
theorem nadds_any {w : World} {v0 v1 : Value} {n0 n1 : Nat} {f0 f1 : Nat → Nat} (h0 : ArgN w v0 n0 f0) (h1 : ArgN w v1 n1 f1)
    (l0 : ∀ j, j < n0 → f0 j < 4294967296) (l1 : ∀ j, j < n1 → f1 j < 4294967296) (s0 : (n0 : Int) ≤ 35184372088800) (s1 : (n1 : Int) ≤ 35184372088800) :
    Calls Try.prog 3 #[v0, v1] w fun e w' => e = .returned (.bool true) ∧ Below w.heap.size w w' := by
  have hA : AN (vb 4294967296 f0 n0) v0 w := ⟨n0, f0, h0, by omega, l0, rfl⟩
  have hB : AN (vb 4294967296 f1 n1) v1 w := ⟨n1, f1, h1, by omega, l1, rfl⟩
  obtain ⟨a0, c0, m0, C, rfl, kC, hC, fC⟩ := few_cut h0 l0 60 (by omega) 60 rfl
  obtain ⟨a1, c1, m1, D, rfl, kD, hD, fD⟩ := few_cut h1 l1 60 (by omega) 60 rfl
  obtain ⟨A, eA⟩ : ∃ A, vb 4294967296 f0 n0 = A := ⟨_, rfl⟩
  obtain ⟨B, eB⟩ : ∃ B, vb 4294967296 f1 n1 = B := ⟨_, rfl⟩
  rw [eA] at hA
  rw [eB] at hB
  have UA := Lib.hid hA
  have UB := Lib.hid hB
  have UC := Lib.hid hC
  have UD := Lib.hid hD
  have FC := Lib.hid fC
  have FD := Lib.hid fD
  have A1 := Lib.hid (fun x y w' (hx : NN A x w') (hy : NN B y w') => (add_api hx hy).mono fun e w'' h => ans_vz h)
  have A2 := Lib.hid (fun x y w' (hx : AN A x w') (hy : AN B y w') => (radd_an hx hy).mono fun e w'' h => ansr_vz h)
  have S1 := Lib.hid (fun x y w' (hx : NN A x w') (hy : NN B y w') => (sub_api hx hy).mono fun e w'' h => ans_vz h)
  have S2 := Lib.hid (fun x y w' (hx : AN A x w') (hy : AN B y w') => (rsub_an hx hy).mono fun e w'' h => ansr_vz h)
  have M1 := Lib.hid (fun x y w' (hx : NN C x w') (hy : NN D y w') => (mul_api hx hy).mono fun e w'' h => ans_vz h)
  have M2 := Lib.hid (fun x y w' (hx : AN C x w') (hy : AN D y w') => (rmul_an hx hy).mono fun e w'' h => ansr_vz h)
  obtain ⟨ca, hca⟩ : ∃ c, cdAdd A B = c := ⟨_, rfl⟩
  obtain ⟨cs, hcs⟩ : ∃ c, cdS A B = c := ⟨_, rfl⟩
  obtain ⟨cm, hcm⟩ : ∃ c, cdMul C D = c := ⟨_, rfl⟩
  rw [hca] at A1 A2
  rw [hcs] at S1 S2
  rw [hcm] at M1 M2
  have e1 : ((ca : Int) != ca) = false := by simp
  have e2 : ((cs : Int) != cs) = false := by simp
  have e3 : ((cm : Int) == cm) = true := by simp
  clear hca hcs hcm h0 h1 l0 l1 s0 s1 hA hB hC hD fC fD kC kD eA eB
  go_enter Try.func3, Try.ntmps3
  have HW : Hid (Below w.heap.size w w) := Lib.hid (Below.refl _ _)
  go_wp2_with fail
  refine (own_an UA.out).mono ?_
  rintro e wn ⟨x1, rfl, hx, hb⟩
  replace UA := Lib.hid (UA.out.below hb)
  replace UB := Lib.hid (UB.out.below hb)
  replace UC := Lib.hid (UC.out.below hb)
  replace UD := Lib.hid (UD.out.below hb)
  replace HW := Lib.hid (HW.out.trans (hb.mono HW.out.size))
  have Nx1 := Lib.hid (hx)
  clear hb
  clear hx
  go_wp2_with fail
  refine (own_an UB.out).mono ?_
  rintro e wn ⟨x2, rfl, hx, hb⟩
  replace UA := Lib.hid (UA.out.below hb)
  replace UB := Lib.hid (UB.out.below hb)
  replace UC := Lib.hid (UC.out.below hb)
  replace UD := Lib.hid (UD.out.below hb)
  replace Nx1 := Lib.hid (Nx1.out.below hb)
  replace HW := Lib.hid (HW.out.trans (hb.mono HW.out.size))
  have Nx2 := Lib.hid (hx)
  clear hb
  clear hx
  go_wp2_with fail
  refine (A1.out _ _ _ Nx1.out Nx2.out).mono ?_
  rintro e wn ⟨x3, rfl, hx, hb⟩
  replace UA := Lib.hid (UA.out.below hb)
  replace UB := Lib.hid (UB.out.below hb)
  replace UC := Lib.hid (UC.out.below hb)
  replace UD := Lib.hid (UD.out.below hb)
  replace HW := Lib.hid (HW.out.trans (hb.mono HW.out.size))
  have P3 := Lib.hid (hx)
  clear hb Nx1 Nx2
  clear hx
  go_wp2_with fail
  refine (A2.out _ _ _ UA.out UB.out).mono ?_
  rintro e wn ⟨x4, rfl, hx, hb⟩
  replace UA := Lib.hid (UA.out.below hb)
  replace UB := Lib.hid (UB.out.below hb)
  replace UC := Lib.hid (UC.out.below hb)
  replace UD := Lib.hid (UD.out.below hb)
  replace P3 := Lib.hid (P3.out.below hb)
  replace HW := Lib.hid (HW.out.trans (hb.mono HW.out.size))
  have P4 := Lib.hid (hx)
  clear hb
  clear hx
  go_wp2_with fail
  refine (own_an UA.out).mono ?_
  rintro e wn ⟨x5, rfl, hx, hb⟩
  replace UA := Lib.hid (UA.out.below hb)
  replace UB := Lib.hid (UB.out.below hb)
  replace UC := Lib.hid (UC.out.below hb)
  replace UD := Lib.hid (UD.out.below hb)
  replace P3 := Lib.hid (P3.out.below hb)
  replace P4 := Lib.hid (P4.out.below hb)
  replace HW := Lib.hid (HW.out.trans (hb.mono HW.out.size))
  have Nx5 := Lib.hid (hx)
  clear hb
  clear hx
  go_wp2_with fail
  refine (own_an UB.out).mono ?_
  rintro e wn ⟨x6, rfl, hx, hb⟩
  replace UA := Lib.hid (UA.out.below hb)
  replace UB := Lib.hid (UB.out.below hb)
  replace UC := Lib.hid (UC.out.below hb)
  replace UD := Lib.hid (UD.out.below hb)
  replace P3 := Lib.hid (P3.out.below hb)
  replace P4 := Lib.hid (P4.out.below hb)
  replace Nx5 := Lib.hid (Nx5.out.below hb)
  replace HW := Lib.hid (HW.out.trans (hb.mono HW.out.size))
  have Nx6 := Lib.hid (hx)
  clear hb
  clear hx
  go_wp2_with fail
  refine (S1.out _ _ _ Nx5.out Nx6.out).mono ?_
  rintro e wn ⟨x7, rfl, hx, hb⟩
  replace UA := Lib.hid (UA.out.below hb)
  replace UB := Lib.hid (UB.out.below hb)
  replace UC := Lib.hid (UC.out.below hb)
  replace UD := Lib.hid (UD.out.below hb)
  replace P3 := Lib.hid (P3.out.below hb)
  replace P4 := Lib.hid (P4.out.below hb)
  replace HW := Lib.hid (HW.out.trans (hb.mono HW.out.size))
  have P7 := Lib.hid (hx)
  clear hb Nx5 Nx6
  clear hx
  go_wp2_with fail
  refine (S2.out _ _ _ UA.out UB.out).mono ?_
  rintro e wn ⟨x8, rfl, hx, hb⟩
  replace UC := Lib.hid (UC.out.below hb)
  replace UD := Lib.hid (UD.out.below hb)
  replace P3 := Lib.hid (P3.out.below hb)
  replace P4 := Lib.hid (P4.out.below hb)
  replace P7 := Lib.hid (P7.out.below hb)
  replace HW := Lib.hid (HW.out.trans (hb.mono HW.out.size))
  have P8 := Lib.hid (hx)
  clear hb UA UB
  clear hx
  go_wp2_with fail
  refine (same_nn P3.out P4.out).mono ?_
  rintro e wn ⟨rfl, hb⟩
  replace UC := Lib.hid (UC.out.below hb)
  replace UD := Lib.hid (UD.out.below hb)
  replace P7 := Lib.hid (P7.out.below hb)
  replace P8 := Lib.hid (P8.out.below hb)
  replace HW := Lib.hid (HW.out.trans (hb.mono HW.out.size))
  clear hb P3 P4
  go_wp2_with fail
  refine (same_nn P7.out P8.out).mono ?_
  rintro e wn ⟨rfl, hb⟩
  replace UC := Lib.hid (UC.out.below hb)
  replace UD := Lib.hid (UD.out.below hb)
  replace HW := Lib.hid (HW.out.trans (hb.mono HW.out.size))
  clear hb P7 P8
  go_wp2_with fail
  refine (FC.out _).mono ?_
  rintro e w' ⟨rfl, hw'⟩
  subst hw'
  go_wp2_with fail
  refine (FD.out _).mono ?_
  rintro e w' ⟨rfl, hw'⟩
  subst hw'
  clear FC FD A1 A2 S1 S2
  go_wp2_with fail
  refine (own_an UC.out).mono ?_
  rintro e wn ⟨y1, rfl, hx, hb⟩
  replace UC := Lib.hid (UC.out.below hb)
  replace UD := Lib.hid (UD.out.below hb)
  replace HW := Lib.hid (HW.out.trans (hb.mono HW.out.size))
  have Ny1 := Lib.hid (hx)
  clear hb
  clear hx
  go_wp2_with fail
  refine (own_an UD.out).mono ?_
  rintro e wn ⟨y2, rfl, hx, hb⟩
  replace UC := Lib.hid (UC.out.below hb)
  replace UD := Lib.hid (UD.out.below hb)
  replace Ny1 := Lib.hid (Ny1.out.below hb)
  replace HW := Lib.hid (HW.out.trans (hb.mono HW.out.size))
  have Ny2 := Lib.hid (hx)
  clear hb
  clear hx
  go_wp2_with fail
  refine (M1.out _ _ _ Ny1.out Ny2.out).mono ?_
  rintro e wn ⟨y3, rfl, hx, hb⟩
  replace UC := Lib.hid (UC.out.below hb)
  replace UD := Lib.hid (UD.out.below hb)
  replace HW := Lib.hid (HW.out.trans (hb.mono HW.out.size))
  have Q3 := Lib.hid (hx)
  clear hb Ny1 Ny2
  clear hx
  go_wp2_with fail
  refine (M2.out _ _ _ UC.out UD.out).mono ?_
  rintro e wn ⟨y4, rfl, hx, hb⟩
  replace Q3 := Lib.hid (Q3.out.below hb)
  replace HW := Lib.hid (HW.out.trans (hb.mono HW.out.size))
  have Q4 := Lib.hid (hx)
  clear hb UC UD
  clear hx
  go_wp2_with fail
  refine (same_nn Q3.out Q4.out).mono ?_
  rintro e wn ⟨rfl, hb⟩
  replace HW := Lib.hid (HW.out.trans (hb.mono HW.out.size))
  clear hb Q3 Q4
  go_wp2_with fail
  refine (lives_any _).mono ?_
  rintro e wn ⟨rfl, hb⟩
  replace HW := Lib.hid (HW.out.trans (hb.mono HW.out.size))
  clear hb
  go_wp2
  go_ret
  exact ⟨rfl, HW.out⟩
end Go.Proofs.Ytgegkffigjogcaa

/- What nat.timesModulo comes to, called with two numbers without noughts behind and a list whose highest bit is set. -/
import Derived.Test.YtgegkffigjogcaaNApi
import Derived.Test.YtgegkffigjogcaaNMod
import Derived.Test.YtgegkffigjogcaaNProd
import Derived.ArgAppend
namespace Go.Proofs.Ytgegkffigjogcaa
open Go.RowKit

set_option maxRecDepth 100000 in
-- WHAT Plain COMES TO: a list that fills its row.
theorem plain_cut (a : Option Addr) (n cap : Nat) (f : Nat → Nat) (hn : (n : Int) ≤ 35184372088832) (hc : n ≤ cap) (w : World) (hP : RdA w a n f) :
    Calls Try.prog 24 #[.slice a n cap] w fun e w' => ∃ a1, e = .returned (.slice a1 (tn f n) (tn f n)) ∧ (a1 = none → tn f n = 0) ∧ RdA w' a1 (tn f n) f ∧ (∀ q, a1 = some q → w.heap.size ≤ q.block ∧ q.block < w'.heap.size) ∧ Below w.heap.size w w' := by
  have HT := Lib.hid (fun w hP => trim_any a n cap f (by omega) hc w hP)
  have hl := tn_le f n
  obtain ⟨m, hm⟩ : ∃ m, tn f n = m := ⟨_, rfl⟩
  rw [hm] at HT hl ⊢
  have hP' : RdA w a m f := hP.less m hl
  clear hm
  have HP := Lib.hid hP; clear hP
  have HP' := Lib.hid hP'; clear hP'
  by_cases h0 : m = 0
  · have e0 : ((m : Int) == 0) = true := by simp [h0]
    have HZ := Lib.hid h0; clear h0
    go_enter Try.func24, Try.ntmps24
    go_wp2_with fail
    refine (HT.out _ HP.out).mono ?_
    rintro e w' ⟨rfl, rfl⟩
    go_wp2
    go_ret
    exact ⟨none, by rw [HZ.out]; rfl, fun _ => HZ.out, .inl HZ.out, (fun q hq => by cases hq), Below.refl _ _⟩
  · have e0 : ((m : Int) == 0) = false := by simp [h0]
    have hm0 : (m : Int) ≤ 35184372088832 := by omega
    obtain ⟨b, o, rfl, hp⟩ : ∃ b o, a = some ⟨b, o, none⟩ ∧ Pt w b o m f := by
      rcases HP'.out with h | h
      · exact absurd h h0
      · exact h
    have HC := Lib.hid (clone_some b o m cap f hm0 w hp); clear hp
    have H0 := Lib.hid h0; clear h0
    go_enter Try.func24, Try.ntmps24
    go_wp2_with fail
    refine (HT.out _ HP.out).mono ?_
    rintro e w' ⟨rfl, rfl⟩
    go_wp2_with fail
    refine HC.out.mono ?_
    rintro e w1 ⟨a1, c1, rfl, hc1, hr, hq, hb⟩
    have HR := Lib.hid (And.intro hr (And.intro hq hb)); clear hr hq hb
    go_wp2_with fail
    refine (clip_any a1 m c1 hc1 _).mono ?_
    rintro e w' ⟨rfl, rfl⟩
    go_wp2
    go_ret
    refine ⟨a1, rfl, fun h => ?_, HR.out⟩
    rcases HR.out.1 with h1 | ⟨b1, o1, h1, -⟩
    · exact h1
    · rw [h] at h1; cases h1

theorem own_wr {w : World} {base n : Nat} {v : Value} {f : Nat → Nat} (h : w.ownsRow base 32 1 v n (pl f n)) (hn : 0 < n) : ∃ g cap, v = .slice (some ⟨g, 0, none⟩) n cap ∧ n ≤ cap ∧ base ≤ g ∧ Wr w g 0 n f := by
  obtain ⟨-, h1⟩ := h
  rcases h1 with ⟨-, h0⟩ | ⟨g, cap, cur, rfl, hg, hc, hnc, hm, hcs, ht⟩
  · omega
  · refine ⟨g, cap, rfl, hnc, hg, (Array.getElem?_eq_some_iff.1 hc).1, fun j hj => ⟨?_, frozen_of_row _ _ _ _ _ hc⟩⟩
    rw [Nat.zero_add, cell_of_row _ _ _ _ _ _ hc, ← pl_at f n j hj, ← ht]
    simp only [Nat.mul_one, List.getElem?_take, hj, if_true]
    simp
/-- A nought behind a list. -/
def beh (f : Nat → Nat) (n : Nat) : Nat → Nat := fun j => if j < n then f j else 0
theorem pl_behind (f : Nat → Nat) (n : Nat) : pl f n ++ [.int .u32 0] = pl (beh f n) (n + 1) := by
  unfold pl beh
  rw [List.range_succ, List.map_append]
  congr 1
  · refine List.map_congr_left fun j hj => ?_
    rw [if_pos (List.mem_range.1 hj)]
  · simp
theorem beh_lt {f : Nat → Nat} {n : Nat} (h : ∀ j, j < n → f j < 4294967296) : ∀ j, j < n + 1 → beh f n j < 4294967296 := fun j _ => by
  unfold beh
  by_cases e : j < n
  · rw [if_pos e]; exact h j e
  · rw [if_neg e]; omega
theorem beh_top (f : Nat → Nat) (n : Nat) : beh f n n = 0 := by unfold beh; rw [if_neg (by omega)]
theorem beh_vb (P : Nat) (f : Nat → Nat) (n : Nat) : vb P (beh f n) (n + 1) = vb P f n := by
  have e : vb P (beh f n) (n + 1) = vb P (beh f n) n + P ^ n * beh f n n := rfl
  rw [e, beh_top, Nat.mul_zero, Nat.add_zero]
  exact vb_congr (fun j hj => by unfold beh; rw [if_pos hj])
theorem nought_at (w : World) (c : Value) (t : TypeId) : ∀ j u, ([c] : List Value)[j]? = some u → (w.alloc (.cells #[c] t)).cell? ((⟨w.heap.size, 0, none⟩ : Addr).add j) = some u := fun j u hj => by
  cases j with
  | zero =>
    injection hj with hj
    subst hj
    show (w.alloc (.cells #[c] t)).cell? ⟨w.heap.size, 0, none⟩ = some c
    rw [cell_of_row _ _ _ _ _ _ (heap_alloc_new _ _)]
    rfl
  | succ j => simp at hj
theorem rd_add {w : World} {a : Option Addr} {n : Nat} {f : Nat → Nat} (h : RdA w a n f) : ∀ b, a = some b → ∀ j u, (pl f n)[j]? = some u → w.cell? (b.add j) = some u := fun b hb j u hj => by
  rcases h with h | ⟨bb, oo, e, hp⟩
  · subst h; simp [pl] at hj
  · rw [e] at hb
    injection hb with hb
    subst hb
    exact news_pl hp j u hj
/-- What modulo makes of a list that is its own. -/
theorem mod_done {w w2 w3 : World} {e : Ending} {S L capS V : Nat} (h : ModPost S L capS V w2 e w3) {f : Nat → Nat} (hW : Wr w2 S 0 L f) (hc : L ≤ capS) (hL : (L : Int) ≤ 35184372088832) (hb : Below w.heap.size w w2) (hS : w.heap.size ≤ S) : MkP V w e w3 := by
  obtain ⟨r, rfl, hh, hl, hv⟩ := h
  have hw3 := hh.wr hW
  refine ⟨_, rfl, ⟨_, tn r L, capS, r, rfl, ⟨Nat.le_trans (tn_le r L) hc, hw3.rd.less _ (tn_le r L), fun q hq => by cases hq; exact hw3.1, fun j hj => hl j (Nat.lt_of_lt_of_le hj (tn_le r L)), by have := tn_le r L; omega⟩, by rw [vb_tn, hv], tn_top r L⟩, But.below hb hh.1 hS⟩
set_option maxRecDepth 100000 in
set_option maxHeartbeats 1000000 in
-- WHAT timesModulo COMES TO.
theorem times_mod {A B : Nat} {va vb' : Value} {w : World} (hA : PV A va w) (hB : PV B vb' w) (b : Option Addr) (m cb : Nat) (g : Nat → Nat) (hm : (m : Int) ≤ 2000) (hg : ∀ j, j < m + 1 → g j < 4294967296) (hgm : 2147483648 ≤ g m) (hR : RdA w b (m + 1) g) (hbl : ∀ q, b = some q → q.block < w.heap.size)
    (hAs : A < 4294967296 ^ (m + 1)) (hBs : B < 4294967296 ^ (m + 1)) : Calls Try.prog 61 #[va, vb', .slice b ((m + 1 : Nat)) cb] w (MkP (A * B % vb 4294967296 g (m + 1)) w) := by
  obtain ⟨a1, n1, c1, f1, rfl, ha, hav, hat⟩ := hA
  obtain ⟨a2, n2, c2, f2, rfl, hb, hbv, hbt⟩ := hB
  have hn1 : n1 ≤ m + 1 := (plain_len (by omega) ha.lt hat).1 (by rw [hav]; exact hAs)
  have hn2 : n2 ≤ m + 1 := (plain_len (by omega) hb.lt hbt).1 (by rw [hbv]; exact hBs)
  clear hAs hBs hat hbt
  have hp := product_any a1 n1 c1 a2 n2 c2 f1 f2 (by omega) (by omega) ha.lt hb.lt w ha.rd hb.rd hb.blk
  rw [hav, hbv] at hp
  clear hav hbv ha hb
  obtain ⟨V, hV⟩ : ∃ V, A * B = V := ⟨_, rfl⟩
  rw [hV] at hp ⊢
  clear hV
  have HP := Lib.hid hp; clear hp
  have HMO := Lib.hid (fun S L capS f h1 h2 h3 h4 h5 h6 w2 h7 h8 => modulo_any S L capS f b m cb g h1 h2 (by omega) h3 h4 h5 hg hgm h6 w2 h7 h8)
  clear hg hgm
  have HR := Lib.hid hR; clear hR
  have HBL := Lib.hid hbl; clear hbl
  obtain ⟨i0, hi, hz0, hz1, hz2⟩ := info_parts info32
  go_enter Try.func61, Try.ntmps61
  go_wp2_with fail
  refine HP.out.mono ?_
  rintro e w1 ⟨P, o, rfl, hP, hW, hol, hov, hb1⟩
  obtain ⟨L, hL⟩ : ∃ L, n1 + n2 = L := ⟨_, rfl⟩
  rw [hL] at hW hol hov
  have HX := Lib.hid (And.intro hP (And.intro hW (And.intro hol (And.intro hov hb1)))); clear hP hW hol hov hb1
  have hL1 : (L : Int) ≤ 4002 := by omega
  rw [hL]
  clear hL hn1 hn2
  go_wp2_with (at_builtin; refine wpList_append_grows _ rfl _ _ 23 rfl 32 i0 (.int .u32 0) 1 4 Try.underlying23 hi hz0 hz1 hz2 rfl (by decide) (some ⟨P, 0, none⟩) L L (pl o L) rfl (fun h => by cases h) (by rw [pl_len, Nat.mul_one]) ?d1 ⟨w1.heap.size, 0, none⟩ 1 1 [.int .u32 0] rfl rfl ?d2 ?d3 (by omega) ?d4 ?d5 ?_)
  case d1 => exact rd_add (HX.out.2.1.rd.below ((Below.refl _ _).alloc (Nat.le_refl _) _))
  case d2 => exact nought_at w1 _ _
  case d3 => intro u hu; simp only [List.mem_cons, List.not_mem_nil, or_false] at hu; subst hu; rfl
  case d4 => unfold maxLen; omega
  case d5 => omega
  intro v' w2 hown hgrow
  rw [pl_behind] at hown
  obtain ⟨S, cS, rfl, hcS, hS, hWS⟩ := own_wr hown (by omega)
  have hb2 : Below w1.heap.size w1 w2 := ((Below.refl _ _).alloc (Nat.le_refl _) _).grown hgrow (by simp) (fun k hk => by cases hk)
  have hbw := HX.out.2.2.2.2.trans (hb2.mono HX.out.2.2.2.2.size)
  have hS1 : w1.heap.size ≤ S := Nat.le_trans (by simp) hS
  have hoff : Off S b := fun q hq => Nat.ne_of_lt (Nat.lt_of_lt_of_le (HBL.out q hq) (Nat.le_trans HX.out.2.2.2.2.size hS1))
  have hmo := HMO.out S (L + 1) cS (beh o L) (by omega) (by omega) hcS (beh_lt HX.out.2.2.1) (beh_top o L) hoff w2 hWS (HR.out.below hbw)
  rw [beh_vb, HX.out.2.2.2.1] at hmo
  have HM := Lib.hid hmo; clear hmo
  have HY := Lib.hid (And.intro hWS (And.intro hcS (And.intro hbw (Nat.le_trans HX.out.2.2.2.2.size hS1))))
  clear hown hgrow hb2 hbw hS1 hoff hS hWS hcS
  go_wp2_with fail
  refine HM.out.mono ?_
  intro e w3 h
  obtain ⟨v, rfl, h2⟩ := mod_done h HY.out.1 HY.out.2.1 (by omega) HY.out.2.2.1 HY.out.2.2.2
  have H2 := Lib.hid h2; clear h2 h
  go_wp2
  go_ret
  exact ⟨v, rfl, H2.out⟩
end Go.Proofs.Ytgegkffigjogcaa

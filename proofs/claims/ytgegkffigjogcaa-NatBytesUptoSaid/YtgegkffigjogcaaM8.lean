/- bailiwicklaw02.NatPowers: whatever the lists: true. (With it, merged: NRef · NRLen · NLaw · NRExp · NPowers.) -/
import Derived.Test.YtgegkffigjogcaaM6
import Derived.Test.YtgegkffigjogcaaM7
import Derived.Test.YtgegkffigjogcaaM5
import Derived.Deep.QuietTactic
namespace Go.Proofs.Ytgegkffigjogcaa
open Go.RowKit

theorem lim_pow : ∃ k : Nat, k = 1024 ∧ LIM = 4294967296 ^ k := ⟨1024, rfl, by unfold LIM; rfl⟩
theorem rp_lim {n : Nat} {f : Nat → Nat} (hf : ∀ j, j < n → f j < 4294967296) (ht : n = 0 ∨ f (n - 1) ≠ 0) : 1024 < n ↔ LIM ≤ vb 4294967296 f n := by
  obtain ⟨k, hk, e⟩ := lim_pow
  have h := plain_len (P := 4294967296) (m := k) (by omega) hf ht
  rw [e]
  constructor
  · intro h1
    exact Nat.le_of_not_lt (fun h2 => by have := h.1 h2; omega)
  · intro h1
    exact Nat.lt_of_not_le (fun h2 => absurd (h.2 (by omega)) (Nat.not_lt.2 h1))
theorem cd_zero {V : Nat} (h : cdN V = 0) : V < LIM := by
  unfold cdN at h
  by_cases e : LIM ≤ V
  · rw [if_pos e] at h; omega
  · exact Nat.lt_of_not_le e
theorem cd2_zero {A B : Nat} (h : cd2 A B = 0) : A < LIM ∧ B < LIM := by
  unfold cd2 at h
  by_cases e : cdN A = 0
  · rw [if_pos e] at h; exact ⟨cd_zero e, cd_zero h⟩
  · rw [if_neg e] at h; exact absurd h e
theorem cdN_bd (V : Nat) : cdN V ≤ 2 := by unfold cdN; split <;> omega
set_option maxRecDepth 100000 in
set_option maxHeartbeats 1000000 in
theorem check_an {V : Nat} {v : Value} {w : World} (h : AN V v w) : Calls Try.prog 23 #[v] w fun e w' => e = .returned (.int .i64 ((cdN V : Nat) : Int)) ∧ Below w.heap.size w w' := by
  have HP := Lib.hid (plain_an h)
  clear h
  go_enter Try.func23, Try.ntmps23
  go_wp2_with fail
  refine HP.out.mono ?_
  rintro e w1 ⟨u, rfl, ⟨g, n, cap, f, rfl, hn, hv, ht⟩, hb⟩
  have hl := rp_lim hn.lt ht
  rw [hv] at hl
  have HB := Lib.hid hb
  by_cases h1 : 1024 < n
  · have h2 : (1024 : Int) < n := by omega
    have HE : Hid (cdN V = 2) := Lib.hid (by unfold cdN; rw [if_pos (hl.1 h1)])
    clear hl hv ht hn hb h1
    go_wp2
    go_ret
    exact ⟨by rw [HE.out]; rfl, HB.out⟩
  · have h2 : ¬ (1024 : Int) < n := by omega
    have HE : Hid (cdN V = 0) := Lib.hid (by unfold cdN; rw [if_neg (fun h => h1 (hl.2 h))])
    clear hl hv ht hn hb h1
    go_wp2
    go_ret
    exact ⟨by rw [HE.out]; rfl, HB.out⟩
set_option maxRecDepth 100000 in
set_option maxHeartbeats 1000000 in
theorem both_an {A B : Nat} {u v : Value} {w : World} (hA : AN A u w) (hB : AN B v w) : Calls Try.prog 44 #[u, v] w fun e w' => e = .returned (.int .i64 ((cd2 A B : Nat) : Int)) ∧ Below w.heap.size w w' := by
  have H1 := Lib.hid (check_an hA)
  have H2 := Lib.hid (fun w' (h : AN B v w') => check_an h)
  have HB := Lib.hid hB
  unfold cd2
  obtain ⟨a, ea⟩ : ∃ a, cdN A = a := ⟨_, rfl⟩
  obtain ⟨b, eb⟩ : ∃ b, cdN B = b := ⟨_, rfl⟩
  rw [ea] at H1 ⊢
  rw [eb] at H2 ⊢
  clear ea eb hA hB
  by_cases h0 : a = 0
  · rw [if_pos h0]
    have e0 : ((a : Int) != 0) = false := by simp [h0]
    clear h0
    go_enter Try.func44, Try.ntmps44
    go_wp2_with fail
    refine H1.out.mono ?_
    rintro e w1 ⟨rfl, hb⟩
    have HW := Lib.hid hb
    replace HB := Lib.hid (HB.out.below hb)
    clear hb
    go_wp2_with fail
    refine (H2.out _ HB.out).mono ?_
    rintro e w2 ⟨rfl, hb⟩
    replace HW := Lib.hid (HW.out.trans (hb.mono HW.out.size))
    clear hb
    go_wp2
    go_ret
    exact ⟨rfl, HW.out⟩
  · rw [if_neg h0]
    have e0 : ((a : Int) != 0) = true := by simp [h0]
    clear h0
    go_enter Try.func44, Try.ntmps44
    go_wp2_with fail
    refine H1.out.mono ?_
    rintro e w1 ⟨rfl, hb⟩
    have HW := Lib.hid hb
    clear hb
    go_wp2
    go_ret
    exact ⟨rfl, HW.out⟩
/-- What a call of the reference leaves that tells a number, or that it can't. -/
def AnsR (c V : Nat) (w : World) (e : Ending) (w' : World) : Prop := ∃ v, e = .returned (.tuple #[v, .int .i64 (c : Nat)]) ∧ (c = 0 → RP V v w') ∧ (c ≠ 0 → v = .slice none 0 0) ∧ Below w.heap.size w w'
def AnsR3 (c Q R : Nat) (w : World) (e : Ending) (w' : World) : Prop := ∃ u v, e = .returned (.tuple #[u, v, .int .i64 (c : Nat)]) ∧ (c = 0 → RP Q u w' ∧ RP R v w') ∧ (c ≠ 0 → u = .slice none 0 0 ∧ v = .slice none 0 0) ∧ Below w.heap.size w w'
set_option maxRecDepth 100000 in
set_option maxHeartbeats 1000000 in
theorem told_dd {N V : Nat} {v : Value} {w : World} (hN : N ≤ 100000) (h : DD N V v w) : Calls Try.prog 45 #[v] w (AnsR (cdN V) V w) := by
  have HO := Lib.hid (of_dd hN h)
  have HC := Lib.hid (fun u w' (h : AN V u w') => check_an h)
  obtain ⟨c, hc⟩ : ∃ c, cdN V = c := ⟨_, rfl⟩
  rw [hc] at HC ⊢
  clear hc h hN
  by_cases h0 : c = 0
  · have e0 : ((c : Int) != 0) = false := by simp [h0]
    have H0 := Lib.hid h0; clear h0
    go_enter Try.func45, Try.ntmps45
    go_wp2_with fail
    refine HO.out.mono ?_
    rintro e w1 ⟨u, rfl, hu, hb⟩
    have HW := Lib.hid hb
    have HU := Lib.hid hu
    clear hb hu
    go_wp2_with fail
    refine (HC.out _ _ HU.out.an).mono ?_
    rintro e w2 ⟨rfl, hb⟩
    replace HU := Lib.hid (HU.out.below hb)
    replace HW := Lib.hid (HW.out.trans (hb.mono HW.out.size))
    clear hb
    go_wp2
    go_ret2
    exact ⟨u, by rw [H0.out]; rfl, fun _ => HU.out, fun h => absurd H0.out h, HW.out⟩
  · have e0 : ((c : Int) != 0) = true := by simp [h0]
    have H0 := Lib.hid h0; clear h0
    go_enter Try.func45, Try.ntmps45
    go_wp2_with fail
    refine HO.out.mono ?_
    rintro e w1 ⟨u, rfl, hu, hb⟩
    have HW := Lib.hid hb
    have HU := Lib.hid hu
    clear hb hu
    go_wp2_with fail
    refine (HC.out _ _ HU.out.an).mono ?_
    rintro e w2 ⟨rfl, hb⟩
    replace HW := Lib.hid (HW.out.trans (hb.mono HW.out.size))
    clear hb
    go_wp2
    go_ret2
    exact ⟨_, rfl, fun h => absurd h H0.out, fun _ => rfl, HW.out⟩
theorem mk_dd {n V : Nat} {w : World} {e : Ending} {w' : World} (h : MkDg n V w e w') : ∃ u, e = .returned u ∧ DD n V u w' ∧ Below w.heap.size w w' := by
  obtain ⟨b, cap, d, rfl, -, h2, h3, h4, h5⟩ := h
  exact ⟨_, rfl, ⟨b, n, cap, d, Nat.le_refl _, rfl, h2, h3, h4⟩, h5⟩
theorem DD.up {N M V : Nat} {v : Value} {w : World} (h : DD N V v w) (hm : N ≤ M) : DD M V v w := by
  obtain ⟨b, n, cap, d, h1, h2⟩ := h; exact ⟨b, n, cap, d, Nat.le_trans h1 hm, h2⟩
theorem sum_dd {N M A B : Nat} {u v : Value} {w : World} (hN : N ≤ 100000) (hM : M ≤ 100000) (hA : DD N A u w) (hB : DD M B v w) : Calls Try.prog 46 #[u, v] w fun e w' => ∃ x, e = .returned x ∧ DD (max N M + 1) (A + B) x w' ∧ Below w.heap.size w w' := by
  obtain ⟨b, n, cap, d, h1, rfl, h2, h3, rfl⟩ := hA
  obtain ⟨b', n', cap', d', h1', rfl, h2', h3', rfl⟩ := hB
  refine (sum_any b cap b' cap' n n' d d' (by omega) (by omega) h3 h3' w h2 h2').mono fun e w' h => ?_
  obtain ⟨x, q1, q2, q3⟩ := mk_dd h
  exact ⟨x, q1, q2.up (by omega), q3⟩
theorem product_dd {N M A B : Nat} {u v : Value} {w : World} (hN : N ≤ 100000) (hM : M ≤ 100000) (hA : DD N A u w) (hB : DD M B v w) : Calls Try.prog 50 #[u, v] w fun e w' => ∃ x, e = .returned x ∧ DD (N + M) (A * B) x w' ∧ Below w.heap.size w w' := by
  obtain ⟨b, n, cap, d, h1, rfl, h2, h3, rfl⟩ := hA
  obtain ⟨b', n', cap', d', h1', rfl, h2', h3', rfl⟩ := hB
  refine (product_digits b cap b' cap' n n' d d' (by omega) (by omega) h3 h3' w h2 h2').mono fun e w' h => ?_
  obtain ⟨x, q1, q2, q3⟩ := mk_dd h
  exact ⟨x, q1, q2.up (by omega), q3⟩
theorem less_dd {N M A B : Nat} {u v : Value} {w : World} (hN : N ≤ 4000000) (hM : M ≤ 4000000) (hA : DD N A u w) (hB : DD M B v w) : Calls Try.prog 64 #[u, v] w fun e w' => e = .returned (.bool (decide (A < B))) ∧ w = w' := by
  obtain ⟨b, n, cap, d, h1, rfl, h2, h3, rfl⟩ := hA
  obtain ⟨b', n', cap', d', h1', rfl, h2', h3', rfl⟩ := hB
  exact less_any b cap b' cap' n n' d d' (by omega) (by omega) h3 h3' w h2 h2'
theorem divide_dd {N M A B : Nat} {u v : Value} {w : World} (hN : N ≤ 1000) (hM : M ≤ 1000) (h0 : 0 < B) (hA : DD N A u w) (hB : DD M B v w) : Calls Try.prog 70 #[u, v] w fun e w' => ∃ x y, e = .returned (.tuple #[x, y]) ∧ DD N (A / B) x w' ∧ DD (M + 1) (A % B) y w' ∧ Below w.heap.size w w' := by
  obtain ⟨b, n, cap, d, h1, rfl, h2, h3, rfl⟩ := hA
  obtain ⟨b', n', cap', d', h1', rfl, h2', h3', rfl⟩ := hB
  refine (divide_ref b cap b' cap' n n' d d' (by omega) (by omega) h3 h3' h0 w h2 h2').mono fun e w' h => ?_
  obtain ⟨Q, g, nr, c, q, dr, rfl, q1, q2, q3, q4, q5, q6, q7, q8⟩ := h
  exact ⟨_, _, rfl, ⟨Q, n, n, q, h1, rfl, q1, q4, q6⟩, ⟨g, nr, c, dr, by omega, rfl, q2, q5, q7⟩, q8⟩
set_option maxRecDepth 100000 in
set_option maxHeartbeats 1000000 in
theorem radd_an {A B : Nat} {u v : Value} {w : World} (hA : AN A u w) (hB : AN B v w) : Calls Try.prog 14 #[u, v] w (AnsR (cdAdd A B) (A + B) w) := by
  have HB := Lib.hid (both_an hA hB)
  have UA := Lib.hid hA
  have UB := Lib.hid hB
  obtain ⟨K, hK, eL⟩ := lim_pow
  unfold cdAdd
  obtain ⟨c, hc⟩ : ∃ c, cd2 A B = c := ⟨_, rfl⟩
  rw [hc] at HB ⊢
  by_cases h0 : c = 0
  · have hL := cd2_zero (hc.trans h0)
    rw [if_pos h0]
    rw [eL] at hL
    have DA := Lib.hid (fun x w' (hx : RP A x w') => digits_rp (k := K) (by omega) hL.1 hx)
    have DB := Lib.hid (fun x w' (hx : RP B x w') => digits_rp (k := K) (by omega) hL.2 hx)
    have OP := Lib.hid (fun x y w' (hx : DD (2 * K) A x w') (hy : DD (2 * K) B y w') => sum_dd (by omega) (by omega) hx hy)
    have TD := Lib.hid (fun x w' (hx : DD (max (2 * K) (2 * K) + 1) (A + B) x w') => told_dd (by omega) hx)
    have e0 : ((c : Int) != 0) = false := by simp [h0]
    clear hc h0 hA hB hL hK eL
    go_enter Try.func14, Try.ntmps14
    have HW : Hid (Below w.heap.size w w) := Lib.hid (Below.refl _ _)
    go_wp2_with fail
    refine (HB.out).mono ?_
    rintro e wn ⟨rfl, hb⟩
    replace UA := Lib.hid (UA.out.below hb)
    replace UB := Lib.hid (UB.out.below hb)
    replace HW := Lib.hid (HW.out.trans (hb.mono HW.out.size))
    clear hb
    go_wp2_with fail
    refine (plain_an UA.out).mono ?_
    rintro e wn ⟨x1, rfl, hx, hb⟩
    replace UA := Lib.hid (UA.out.below hb)
    replace UB := Lib.hid (UB.out.below hb)
    replace HW := Lib.hid (HW.out.trans (hb.mono HW.out.size))
    have P1 := Lib.hid (hx)
    clear hb
    clear hx
    go_wp2_with fail
    refine (DA.out _ _ P1.out).mono ?_
    rintro e wn ⟨x2, rfl, hx, hb⟩
    replace UA := Lib.hid (UA.out.below hb)
    replace UB := Lib.hid (UB.out.below hb)
    replace HW := Lib.hid (HW.out.trans (hb.mono HW.out.size))
    have D2 := Lib.hid (hx)
    clear hb P1
    clear hx
    go_wp2_with fail
    refine (plain_an UB.out).mono ?_
    rintro e wn ⟨x3, rfl, hx, hb⟩
    replace UA := Lib.hid (UA.out.below hb)
    replace UB := Lib.hid (UB.out.below hb)
    replace D2 := Lib.hid (D2.out.below hb)
    replace HW := Lib.hid (HW.out.trans (hb.mono HW.out.size))
    have P3 := Lib.hid (hx)
    clear hb
    clear hx
    go_wp2_with fail
    refine (DB.out _ _ P3.out).mono ?_
    rintro e wn ⟨x4, rfl, hx, hb⟩
    replace UA := Lib.hid (UA.out.below hb)
    replace UB := Lib.hid (UB.out.below hb)
    replace D2 := Lib.hid (D2.out.below hb)
    replace HW := Lib.hid (HW.out.trans (hb.mono HW.out.size))
    have D4 := Lib.hid (hx)
    clear hb P3
    clear hx
    go_wp2_with fail
    refine (OP.out _ _ _ D2.out D4.out).mono ?_
    rintro e wn ⟨x5, rfl, hx, hb⟩
    replace UA := Lib.hid (UA.out.below hb)
    replace UB := Lib.hid (UB.out.below hb)
    replace HW := Lib.hid (HW.out.trans (hb.mono HW.out.size))
    have D5 := Lib.hid (hx)
    clear hb D2 D4
    clear hx
    go_wp2_with fail
    refine (TD.out _ _ D5.out).mono ?_
    rintro e wn ⟨x6, rfl, hx, hy, hb⟩
    have HF := Lib.hid (And.intro hx (And.intro hy (HW.out.trans (hb.mono HW.out.size))))
    clear hx hy hb
    go_wp2
    go_ret2
    exact ⟨x6, rfl, HF.out.1, HF.out.2.1, HF.out.2.2⟩
  · rw [if_neg h0]
    have e0 : ((c : Int) != 0) = true := by simp [h0]
    have H0 := Lib.hid h0
    clear hc h0 hA hB hK eL
    go_enter Try.func14, Try.ntmps14
    go_wp2_with fail
    refine HB.out.mono ?_
    rintro e wn ⟨rfl, hb⟩
    have HW := Lib.hid hb
    clear hb
    go_wp2
    go_ret2
    exact ⟨_, rfl, fun h => absurd h H0.out, fun _ => rfl, HW.out⟩
set_option maxRecDepth 100000 in
set_option maxHeartbeats 1000000 in
theorem rmul_an {A B : Nat} {u v : Value} {w : World} (hA : AN A u w) (hB : AN B v w) : Calls Try.prog 20 #[u, v] w (AnsR (cdMul A B) (A * B) w) := by
  have HB := Lib.hid (both_an hA hB)
  have UA := Lib.hid hA
  have UB := Lib.hid hB
  obtain ⟨K, hK, eL⟩ := lim_pow
  unfold cdMul
  obtain ⟨c, hc⟩ : ∃ c, cd2 A B = c := ⟨_, rfl⟩
  rw [hc] at HB ⊢
  by_cases h0 : c = 0
  · have hL := cd2_zero (hc.trans h0)
    rw [if_pos h0]
    rw [eL] at hL
    have DA := Lib.hid (fun x w' (hx : RP A x w') => digits_rp (k := K) (by omega) hL.1 hx)
    have DB := Lib.hid (fun x w' (hx : RP B x w') => digits_rp (k := K) (by omega) hL.2 hx)
    have OP := Lib.hid (fun x y w' (hx : DD (2 * K) A x w') (hy : DD (2 * K) B y w') => product_dd (by omega) (by omega) hx hy)
    have TD := Lib.hid (fun x w' (hx : DD (2 * K + 2 * K) (A * B) x w') => told_dd (by omega) hx)
    have e0 : ((c : Int) != 0) = false := by simp [h0]
    clear hc h0 hA hB hL hK eL
    go_enter Try.func20, Try.ntmps20
    have HW : Hid (Below w.heap.size w w) := Lib.hid (Below.refl _ _)
    go_wp2_with fail
    refine (HB.out).mono ?_
    rintro e wn ⟨rfl, hb⟩
    replace UA := Lib.hid (UA.out.below hb)
    replace UB := Lib.hid (UB.out.below hb)
    replace HW := Lib.hid (HW.out.trans (hb.mono HW.out.size))
    clear hb
    go_wp2_with fail
    refine (plain_an UA.out).mono ?_
    rintro e wn ⟨x1, rfl, hx, hb⟩
    replace UA := Lib.hid (UA.out.below hb)
    replace UB := Lib.hid (UB.out.below hb)
    replace HW := Lib.hid (HW.out.trans (hb.mono HW.out.size))
    have P1 := Lib.hid (hx)
    clear hb
    clear hx
    go_wp2_with fail
    refine (DA.out _ _ P1.out).mono ?_
    rintro e wn ⟨x2, rfl, hx, hb⟩
    replace UA := Lib.hid (UA.out.below hb)
    replace UB := Lib.hid (UB.out.below hb)
    replace HW := Lib.hid (HW.out.trans (hb.mono HW.out.size))
    have D2 := Lib.hid (hx)
    clear hb P1
    clear hx
    go_wp2_with fail
    refine (plain_an UB.out).mono ?_
    rintro e wn ⟨x3, rfl, hx, hb⟩
    replace UA := Lib.hid (UA.out.below hb)
    replace UB := Lib.hid (UB.out.below hb)
    replace D2 := Lib.hid (D2.out.below hb)
    replace HW := Lib.hid (HW.out.trans (hb.mono HW.out.size))
    have P3 := Lib.hid (hx)
    clear hb
    clear hx
    go_wp2_with fail
    refine (DB.out _ _ P3.out).mono ?_
    rintro e wn ⟨x4, rfl, hx, hb⟩
    replace UA := Lib.hid (UA.out.below hb)
    replace UB := Lib.hid (UB.out.below hb)
    replace D2 := Lib.hid (D2.out.below hb)
    replace HW := Lib.hid (HW.out.trans (hb.mono HW.out.size))
    have D4 := Lib.hid (hx)
    clear hb P3
    clear hx
    go_wp2_with fail
    refine (OP.out _ _ _ D2.out D4.out).mono ?_
    rintro e wn ⟨x5, rfl, hx, hb⟩
    replace UA := Lib.hid (UA.out.below hb)
    replace UB := Lib.hid (UB.out.below hb)
    replace HW := Lib.hid (HW.out.trans (hb.mono HW.out.size))
    have D5 := Lib.hid (hx)
    clear hb D2 D4
    clear hx
    go_wp2_with fail
    refine (TD.out _ _ D5.out).mono ?_
    rintro e wn ⟨x6, rfl, hx, hy, hb⟩
    have HF := Lib.hid (And.intro hx (And.intro hy (HW.out.trans (hb.mono HW.out.size))))
    clear hx hy hb
    go_wp2
    go_ret2
    exact ⟨x6, rfl, HF.out.1, HF.out.2.1, HF.out.2.2⟩
  · rw [if_neg h0]
    have e0 : ((c : Int) != 0) = true := by simp [h0]
    have H0 := Lib.hid h0
    clear hc h0 hA hB hK eL
    go_enter Try.func20, Try.ntmps20
    go_wp2_with fail
    refine HB.out.mono ?_
    rintro e wn ⟨rfl, hb⟩
    have HW := Lib.hid hb
    clear hb
    go_wp2
    go_ret2
    exact ⟨_, rfl, fun h => absurd h H0.out, fun _ => rfl, HW.out⟩
set_option maxRecDepth 100000 in
set_option maxHeartbeats 1000000 in
theorem rdivide_an {A B K : Nat} {u v : Value} {w : World} (hK : K ≤ 400) (kA : A < 4294967296 ^ K) (kB : B < 4294967296 ^ K) (h0 : 0 < B) (hA : AN A u w) (hB : AN B v w) : Calls Try.prog 55 #[u, v] w fun e w' => ∃ x y, e = .returned (.tuple #[x, y]) ∧ RP (A / B) x w' ∧ RP (A % B) y w' ∧ Below w.heap.size w w' := by
  have UA := Lib.hid hA
  have UB := Lib.hid hB
  have DA := Lib.hid (fun x w' (hx : RP A x w') => digits_rp (k := K) (by omega) kA hx)
  have DB := Lib.hid (fun x w' (hx : RP B x w') => digits_rp (k := K) (by omega) kB hx)
  have OP := Lib.hid (fun x y w' (hx : DD (2 * K) A x w') (hy : DD (2 * K) B y w') => divide_dd (by omega) (by omega) h0 hx hy)
  have OQ := Lib.hid (fun x w' (hx : DD (2 * K) (A / B) x w') => of_dd (by omega) hx)
  have OM := Lib.hid (fun x w' (hx : DD (2 * K + 1) (A % B) x w') => of_dd (by omega) hx)
  clear hA hB hK kA kB h0
  go_enter Try.func55, Try.ntmps55
  have HW : Hid (Below w.heap.size w w) := Lib.hid (Below.refl _ _)
  go_wp2_with fail
  refine (plain_an UA.out).mono ?_
  rintro e wn ⟨x1, rfl, hx, hb⟩
  replace UA := Lib.hid (UA.out.below hb)
  replace UB := Lib.hid (UB.out.below hb)
  replace HW := Lib.hid (HW.out.trans (hb.mono HW.out.size))
  have P1 := Lib.hid (hx)
  clear hb
  clear hx
  go_wp2_with fail
  refine (DA.out _ _ P1.out).mono ?_
  rintro e wn ⟨x2, rfl, hx, hb⟩
  replace UA := Lib.hid (UA.out.below hb)
  replace UB := Lib.hid (UB.out.below hb)
  replace HW := Lib.hid (HW.out.trans (hb.mono HW.out.size))
  have D2 := Lib.hid (hx)
  clear hb P1
  clear hx
  go_wp2_with fail
  refine (plain_an UB.out).mono ?_
  rintro e wn ⟨x3, rfl, hx, hb⟩
  replace UA := Lib.hid (UA.out.below hb)
  replace UB := Lib.hid (UB.out.below hb)
  replace D2 := Lib.hid (D2.out.below hb)
  replace HW := Lib.hid (HW.out.trans (hb.mono HW.out.size))
  have P3 := Lib.hid (hx)
  clear hb
  clear hx
  go_wp2_with fail
  refine (DB.out _ _ P3.out).mono ?_
  rintro e wn ⟨x4, rfl, hx, hb⟩
  replace UA := Lib.hid (UA.out.below hb)
  replace UB := Lib.hid (UB.out.below hb)
  replace D2 := Lib.hid (D2.out.below hb)
  replace HW := Lib.hid (HW.out.trans (hb.mono HW.out.size))
  have D4 := Lib.hid (hx)
  clear hb P3
  clear hx
  go_wp2_with fail
  refine (OP.out _ _ _ D2.out D4.out).mono ?_
  rintro e wn ⟨x5, x6, rfl, hx, hy, hb⟩
  replace UA := Lib.hid (UA.out.below hb)
  replace UB := Lib.hid (UB.out.below hb)
  replace HW := Lib.hid (HW.out.trans (hb.mono HW.out.size))
  have D5 := Lib.hid (hx)
  have D6 := Lib.hid (hy)
  clear hb D2 D4
  clear hx hy
  go_wp2_with fail
  refine (OQ.out _ _ D5.out).mono ?_
  rintro e wn ⟨x7, rfl, hx, hb⟩
  replace UA := Lib.hid (UA.out.below hb)
  replace UB := Lib.hid (UB.out.below hb)
  replace D6 := Lib.hid (D6.out.below hb)
  replace HW := Lib.hid (HW.out.trans (hb.mono HW.out.size))
  have P7 := Lib.hid (hx)
  clear hb D5
  clear hx
  go_wp2_with fail
  refine (OM.out _ _ D6.out).mono ?_
  rintro e wn ⟨x8, rfl, hx, hb⟩
  replace UA := Lib.hid (UA.out.below hb)
  replace UB := Lib.hid (UB.out.below hb)
  replace P7 := Lib.hid (P7.out.below hb)
  replace HW := Lib.hid (HW.out.trans (hb.mono HW.out.size))
  have P8 := Lib.hid (hx)
  clear hb D6
  clear hx
  go_wp2
  go_ret2
  exact ⟨x7, x8, rfl, P7.out, P8.out, HW.out⟩
set_option maxRecDepth 100000 in
set_option maxHeartbeats 1000000 in
theorem rdivmod_an {A B K : Nat} {u v : Value} {w : World} (hK : K ≤ 400) (kA : A < 4294967296 ^ K) (kB : B < 4294967296 ^ K) (hA : AN A u w) (hB : AN B v w) : Calls Try.prog 29 #[u, v] w (AnsR3 (cdD A B) (A / B) (A % B) w) := by
  have HB := Lib.hid (both_an hA hB)
  have UA := Lib.hid hA
  have UB := Lib.hid hB
  unfold cdD
  obtain ⟨c, hc⟩ : ∃ c, cd2 A B = c := ⟨_, rfl⟩
  rw [hc] at HB ⊢
  by_cases h0 : c = 0
  · rw [if_pos h0]
    have e0 : ((c : Int) != 0) = false := by simp [h0]
    clear hc h0 hA hB
    by_cases hb0 : B = 0
    · rw [if_pos hb0]
      clear hK kA kB
      go_enter Try.func29, Try.ntmps29
      have HW : Hid (Below w.heap.size w w) := Lib.hid (Below.refl _ _)
      go_wp2_with fail
      refine (HB.out).mono ?_
      rintro e wn ⟨rfl, hb⟩
      replace UA := Lib.hid (UA.out.below hb)
      replace UB := Lib.hid (UB.out.below hb)
      replace HW := Lib.hid (HW.out.trans (hb.mono HW.out.size))
      clear hb
      go_wp2_with fail
      refine (plain_an UB.out).mono ?_
      rintro e wn ⟨x1, rfl, hx, hb⟩
      replace UA := Lib.hid (UA.out.below hb)
      replace UB := Lib.hid (UB.out.below hb)
      replace HW := Lib.hid (HW.out.trans (hb.mono HW.out.size))
      have P1 := Lib.hid (hx)
      clear hb
      clear hx
      obtain ⟨g, n, cap, f, rfl, hn, hv, ht⟩ := P1.out
      have hn0 : n = 0 := Nat.le_zero.1 ((plain_len (P := 4294967296) (m := 0) (by omega) hn.lt ht).1 (by rw [hv, hb0]; exact Nat.pow_pos (by omega)))
      clear P1 hv ht hn hb0
      subst hn0
      go_wp2
      go_ret3
      exact ⟨_, _, rfl, fun h => absurd h (by decide), fun _ => ⟨rfl, rfl⟩, HW.out⟩
    · rw [if_neg hb0]
      have OP := Lib.hid (fun x y w' (hx : AN A x w') (hy : AN B y w') => rdivide_an hK kA kB (by omega) hx hy)
      clear hK kA kB
      go_enter Try.func29, Try.ntmps29
      have HW : Hid (Below w.heap.size w w) := Lib.hid (Below.refl _ _)
      go_wp2_with fail
      refine (HB.out).mono ?_
      rintro e wn ⟨rfl, hb⟩
      replace UA := Lib.hid (UA.out.below hb)
      replace UB := Lib.hid (UB.out.below hb)
      replace HW := Lib.hid (HW.out.trans (hb.mono HW.out.size))
      clear hb
      go_wp2_with fail
      refine (plain_an UB.out).mono ?_
      rintro e wn ⟨x1, rfl, hx, hb⟩
      replace UA := Lib.hid (UA.out.below hb)
      replace UB := Lib.hid (UB.out.below hb)
      replace HW := Lib.hid (HW.out.trans (hb.mono HW.out.size))
      have P1 := Lib.hid (hx)
      clear hb
      clear hx
      obtain ⟨g, n, cap, f, rfl, hn, hv, ht⟩ := P1.out
      have hn0 : n ≠ 0 := fun h => hb0 (by rw [← hv, h]; rfl)
      have hn1 : ((n : Int) == 0) = false := by simp [hn0]
      clear P1 hv ht hn hb0 hn0
      go_wp2_with fail
      refine (OP.out _ _ _ UA.out UB.out).mono ?_
      rintro e wn ⟨x2, x3, rfl, hx, hy, hb⟩
      replace UA := Lib.hid (UA.out.below hb)
      replace UB := Lib.hid (UB.out.below hb)
      replace HW := Lib.hid (HW.out.trans (hb.mono HW.out.size))
      have P2 := Lib.hid (hx)
      have P3 := Lib.hid (hy)
      clear hb
      clear hx hy
      go_wp2
      go_ret3
      exact ⟨x2, x3, rfl, fun _ => ⟨P2.out, P3.out⟩, fun h => absurd rfl h, HW.out⟩
  · rw [if_neg h0]
    have e0 : ((c : Int) != 0) = true := by simp [h0]
    have H0 := Lib.hid h0
    clear hc h0 hA hB hK kA kB
    go_enter Try.func29, Try.ntmps29
    go_wp2_with fail
    refine HB.out.mono ?_
    rintro e wn ⟨rfl, hb⟩
    have HW := Lib.hid hb
    clear hb
    go_wp2
    go_ret3
    exact ⟨_, _, rfl, fun h => absurd h H0.out, fun _ => ⟨rfl, rfl⟩, HW.out⟩
set_option maxRecDepth 100000 in
set_option maxHeartbeats 1000000 in
theorem rcmp_an {A B K : Nat} {u v : Value} {w : World} (hK : K ≤ 2000000) (kA : A < 4294967296 ^ K) (kB : B < 4294967296 ^ K) (hA : AN A u w) (hB : AN B v w) : Calls Try.prog 39 #[u, v] w fun e w' => e = .returned (.int .i64 (sgn A B)) ∧ Below w.heap.size w w' := by
  have UA := Lib.hid hA
  have UB := Lib.hid hB
  have DA := Lib.hid (fun x w' (hx : RP A x w') => digits_rp (k := K) (by omega) kA hx)
  have DB := Lib.hid (fun x w' (hx : RP B x w') => digits_rp (k := K) (by omega) kB hx)
  have L1 := Lib.hid (fun x y w' (hx : DD (2 * K) A x w') (hy : DD (2 * K) B y w') => less_dd (by omega) (by omega) hx hy)
  have L2 := Lib.hid (fun x y w' (hx : DD (2 * K) B x w') (hy : DD (2 * K) A y w') => less_dd (by omega) (by omega) hx hy)
  clear hA hB hK kA kB
  unfold sgn
  by_cases h1 : A < B
  · rw [if_pos h1]
    rw [decide_eq_true h1] at L1
    clear h1 L2
    go_enter Try.func39, Try.ntmps39
    have HW : Hid (Below w.heap.size w w) := Lib.hid (Below.refl _ _)
    go_wp2_with fail
    refine (plain_an UA.out).mono ?_
    rintro e wn ⟨x1, rfl, hx, hb⟩
    replace UA := Lib.hid (UA.out.below hb)
    replace UB := Lib.hid (UB.out.below hb)
    replace HW := Lib.hid (HW.out.trans (hb.mono HW.out.size))
    have P1 := Lib.hid (hx)
    clear hb
    clear hx
    go_wp2_with fail
    refine (plain_an UB.out).mono ?_
    rintro e wn ⟨x2, rfl, hx, hb⟩
    replace UA := Lib.hid (UA.out.below hb)
    replace UB := Lib.hid (UB.out.below hb)
    replace P1 := Lib.hid (P1.out.below hb)
    replace HW := Lib.hid (HW.out.trans (hb.mono HW.out.size))
    have P2 := Lib.hid (hx)
    clear hb
    clear hx
    go_wp2_with fail
    refine (DA.out _ _ P1.out).mono ?_
    rintro e wn ⟨x3, rfl, hx, hb⟩
    replace UA := Lib.hid (UA.out.below hb)
    replace UB := Lib.hid (UB.out.below hb)
    replace P1 := Lib.hid (P1.out.below hb)
    replace P2 := Lib.hid (P2.out.below hb)
    replace HW := Lib.hid (HW.out.trans (hb.mono HW.out.size))
    have D3 := Lib.hid (hx)
    clear hb
    clear hx
    go_wp2_with fail
    refine (DB.out _ _ P2.out).mono ?_
    rintro e wn ⟨x4, rfl, hx, hb⟩
    replace UA := Lib.hid (UA.out.below hb)
    replace UB := Lib.hid (UB.out.below hb)
    replace P1 := Lib.hid (P1.out.below hb)
    replace P2 := Lib.hid (P2.out.below hb)
    replace D3 := Lib.hid (D3.out.below hb)
    replace HW := Lib.hid (HW.out.trans (hb.mono HW.out.size))
    have D4 := Lib.hid (hx)
    clear hb
    clear hx
    go_wp2_with fail
    refine (L1.out _ _ _ D3.out D4.out).mono ?_
    rintro e wn ⟨rfl, rfl⟩
    go_wp2
    go_ret
    exact ⟨rfl, HW.out⟩
  · rw [if_neg h1]
    rw [decide_eq_false h1] at L1
    clear h1
    by_cases h2 : B < A
    · rw [if_pos h2]
      rw [decide_eq_true h2] at L2
      clear h2
      go_enter Try.func39, Try.ntmps39
      have HW : Hid (Below w.heap.size w w) := Lib.hid (Below.refl _ _)
      go_wp2_with fail
      refine (plain_an UA.out).mono ?_
      rintro e wn ⟨x1, rfl, hx, hb⟩
      replace UA := Lib.hid (UA.out.below hb)
      replace UB := Lib.hid (UB.out.below hb)
      replace HW := Lib.hid (HW.out.trans (hb.mono HW.out.size))
      have P1 := Lib.hid (hx)
      clear hb
      clear hx
      go_wp2_with fail
      refine (plain_an UB.out).mono ?_
      rintro e wn ⟨x2, rfl, hx, hb⟩
      replace UA := Lib.hid (UA.out.below hb)
      replace UB := Lib.hid (UB.out.below hb)
      replace P1 := Lib.hid (P1.out.below hb)
      replace HW := Lib.hid (HW.out.trans (hb.mono HW.out.size))
      have P2 := Lib.hid (hx)
      clear hb
      clear hx
      go_wp2_with fail
      refine (DA.out _ _ P1.out).mono ?_
      rintro e wn ⟨x3, rfl, hx, hb⟩
      replace UA := Lib.hid (UA.out.below hb)
      replace UB := Lib.hid (UB.out.below hb)
      replace P1 := Lib.hid (P1.out.below hb)
      replace P2 := Lib.hid (P2.out.below hb)
      replace HW := Lib.hid (HW.out.trans (hb.mono HW.out.size))
      have D3 := Lib.hid (hx)
      clear hb
      clear hx
      go_wp2_with fail
      refine (DB.out _ _ P2.out).mono ?_
      rintro e wn ⟨x4, rfl, hx, hb⟩
      replace UA := Lib.hid (UA.out.below hb)
      replace UB := Lib.hid (UB.out.below hb)
      replace P1 := Lib.hid (P1.out.below hb)
      replace P2 := Lib.hid (P2.out.below hb)
      replace D3 := Lib.hid (D3.out.below hb)
      replace HW := Lib.hid (HW.out.trans (hb.mono HW.out.size))
      have D4 := Lib.hid (hx)
      clear hb
      clear hx
      go_wp2_with fail
      refine (L1.out _ _ _ D3.out D4.out).mono ?_
      rintro e wn ⟨rfl, rfl⟩
      go_wp2_with fail
      refine (DB.out _ _ P2.out).mono ?_
      rintro e wn ⟨x5, rfl, hx, hb⟩
      replace UA := Lib.hid (UA.out.below hb)
      replace UB := Lib.hid (UB.out.below hb)
      replace P1 := Lib.hid (P1.out.below hb)
      replace P2 := Lib.hid (P2.out.below hb)
      replace D3 := Lib.hid (D3.out.below hb)
      replace D4 := Lib.hid (D4.out.below hb)
      replace HW := Lib.hid (HW.out.trans (hb.mono HW.out.size))
      have D5 := Lib.hid (hx)
      clear hb
      clear hx
      go_wp2_with fail
      refine (DA.out _ _ P1.out).mono ?_
      rintro e wn ⟨x6, rfl, hx, hb⟩
      replace UA := Lib.hid (UA.out.below hb)
      replace UB := Lib.hid (UB.out.below hb)
      replace P1 := Lib.hid (P1.out.below hb)
      replace P2 := Lib.hid (P2.out.below hb)
      replace D3 := Lib.hid (D3.out.below hb)
      replace D4 := Lib.hid (D4.out.below hb)
      replace D5 := Lib.hid (D5.out.below hb)
      replace HW := Lib.hid (HW.out.trans (hb.mono HW.out.size))
      have D6 := Lib.hid (hx)
      clear hb
      clear hx
      go_wp2_with fail
      refine (L2.out _ _ _ D5.out D6.out).mono ?_
      rintro e wn ⟨rfl, rfl⟩
      go_wp2
      go_ret
      exact ⟨rfl, HW.out⟩
    · rw [if_neg h2]
      rw [decide_eq_false h2] at L2
      clear h2
      go_enter Try.func39, Try.ntmps39
      have HW : Hid (Below w.heap.size w w) := Lib.hid (Below.refl _ _)
      go_wp2_with fail
      refine (plain_an UA.out).mono ?_
      rintro e wn ⟨x1, rfl, hx, hb⟩
      replace UA := Lib.hid (UA.out.below hb)
      replace UB := Lib.hid (UB.out.below hb)
      replace HW := Lib.hid (HW.out.trans (hb.mono HW.out.size))
      have P1 := Lib.hid (hx)
      clear hb
      clear hx
      go_wp2_with fail
      refine (plain_an UB.out).mono ?_
      rintro e wn ⟨x2, rfl, hx, hb⟩
      replace UA := Lib.hid (UA.out.below hb)
      replace UB := Lib.hid (UB.out.below hb)
      replace P1 := Lib.hid (P1.out.below hb)
      replace HW := Lib.hid (HW.out.trans (hb.mono HW.out.size))
      have P2 := Lib.hid (hx)
      clear hb
      clear hx
      go_wp2_with fail
      refine (DA.out _ _ P1.out).mono ?_
      rintro e wn ⟨x3, rfl, hx, hb⟩
      replace UA := Lib.hid (UA.out.below hb)
      replace UB := Lib.hid (UB.out.below hb)
      replace P1 := Lib.hid (P1.out.below hb)
      replace P2 := Lib.hid (P2.out.below hb)
      replace HW := Lib.hid (HW.out.trans (hb.mono HW.out.size))
      have D3 := Lib.hid (hx)
      clear hb
      clear hx
      go_wp2_with fail
      refine (DB.out _ _ P2.out).mono ?_
      rintro e wn ⟨x4, rfl, hx, hb⟩
      replace UA := Lib.hid (UA.out.below hb)
      replace UB := Lib.hid (UB.out.below hb)
      replace P1 := Lib.hid (P1.out.below hb)
      replace P2 := Lib.hid (P2.out.below hb)
      replace D3 := Lib.hid (D3.out.below hb)
      replace HW := Lib.hid (HW.out.trans (hb.mono HW.out.size))
      have D4 := Lib.hid (hx)
      clear hb
      clear hx
      go_wp2_with fail
      refine (L1.out _ _ _ D3.out D4.out).mono ?_
      rintro e wn ⟨rfl, rfl⟩
      go_wp2_with fail
      refine (DB.out _ _ P2.out).mono ?_
      rintro e wn ⟨x5, rfl, hx, hb⟩
      replace UA := Lib.hid (UA.out.below hb)
      replace UB := Lib.hid (UB.out.below hb)
      replace P1 := Lib.hid (P1.out.below hb)
      replace P2 := Lib.hid (P2.out.below hb)
      replace D3 := Lib.hid (D3.out.below hb)
      replace D4 := Lib.hid (D4.out.below hb)
      replace HW := Lib.hid (HW.out.trans (hb.mono HW.out.size))
      have D5 := Lib.hid (hx)
      clear hb
      clear hx
      go_wp2_with fail
      refine (DA.out _ _ P1.out).mono ?_
      rintro e wn ⟨x6, rfl, hx, hb⟩
      replace UA := Lib.hid (UA.out.below hb)
      replace UB := Lib.hid (UB.out.below hb)
      replace P1 := Lib.hid (P1.out.below hb)
      replace P2 := Lib.hid (P2.out.below hb)
      replace D3 := Lib.hid (D3.out.below hb)
      replace D4 := Lib.hid (D4.out.below hb)
      replace D5 := Lib.hid (D5.out.below hb)
      replace HW := Lib.hid (HW.out.trans (hb.mono HW.out.size))
      have D6 := Lib.hid (hx)
      clear hb
      clear hx
      go_wp2_with fail
      refine (L2.out _ _ _ D5.out D6.out).mono ?_
      rintro e wn ⟨rfl, rfl⟩
      go_wp2
      go_ret
      exact ⟨rfl, HW.out⟩
end Go.Proofs.Ytgegkffigjogcaa
namespace Go.Proofs.Ytgegkffigjogcaa
open Go.RowKit

theorem bl_is {V k : Nat} (h1 : 2 ^ k ≤ V) (h2 : V < 2 ^ (k + 1)) : blN V = k + 1 := by
  have h0 : V ≠ 0 := by have := Nat.pow_pos (n := k) (show 0 < 2 by omega); omega
  have h3 := blN_le h2
  have h4 : ¬ blN V ≤ k := fun h => by
    have h5 : V < 2 ^ blN V := by
      unfold blN
      rw [if_neg h0]
      exact (Nat.log2_lt h0).1 (Nat.lt_succ_self _)
    have h6 := Nat.pow_le_pow_right (n := 2) (by omega) h
    omega
  omega
theorem bit_off {V k : Nat} (h2 : V < 2 ^ (k + 1)) (h : V / 2 ^ k % 2 = 0) : V < 2 ^ k := by
  have hp := Nat.pow_pos (n := k) (show 0 < 2 by omega)
  have h3 : V / 2 ^ k < 2 := by rw [Nat.div_lt_iff_lt_mul hp, Nat.mul_comm, ← Nat.pow_succ]; exact h2
  have h4 : V / 2 ^ k = 0 := by
    generalize V / 2 ^ k = x at h h3
    clear hp h2
    omega
  rcases Nat.div_eq_zero_iff.1 h4 with h5 | h5
  · omega
  · exact h5
theorem bit_on {V k : Nat} (h : V / 2 ^ k % 2 = 1) : 2 ^ k ≤ V := by
  have hp := Nat.pow_pos (n := k) (show 0 < 2 by omega)
  exact Nat.le_of_not_lt (fun h5 => by rw [Nat.div_eq_of_lt h5] at h; omega)
set_option maxRecDepth 100000 in
set_option maxHeartbeats 1000000 in
-- WHAT THE REFERENCE's Len COMES TO.
theorem rlen_an {V : Nat} {v : Value} {w : World} (h : AN V v w) : Calls Try.prog 27 #[v] w fun e w' => e = .returned (.int .i64 ((blN V : Nat) : Int)) ∧ Below w.heap.size w w' := by
  have HP := Lib.hid (plain_an h)
  clear h
  go_enter Try.func27, Try.ntmps27
  go_wp2_with fail
  refine HP.out.mono ?_
  rintro e w1 ⟨u, rfl, ⟨g, n, cap, f, rfl, hn, hv, ht⟩, hb⟩
  have HB := Lib.hid hb
  have HN := Lib.hid hn
  have HV := Lib.hid hv
  have hnf := hn.few
  clear hv ht hn hb HP
  go_wp2
  go_loop [4] (fun iv => ∃ k : Nat, k ≤ 32 * n ∧ iv = .int .i64 k ∧ Hid (V < 2 ^ k)) (fun iv => (intOf iv).toNat)
  case atStart =>
    refine ⟨32 * n, Nat.le_refl _, by simp, Lib.hid ?_⟩
    rw [← HV.out, ← pow_32]
    exact vb_lt HN.out.lt
  case round =>
    obtain ⟨k, hk, rfl, H⟩ := hrel
    have hk00 : (0 : Int) ≤ k := by omega
    have hkb : (k : Int) ≤ 1125899906842624 := by omega
    rcases k with - | i
    · have h0 : V = 0 := by have := H.out; omega
      have HE : Hid (blN V = 0) := Lib.hid (by rw [h0]; rfl)
      clear h0
      clear H
      go_wp2
      go_ret
      exact ⟨by rw [HE.out]; rfl, HB.out⟩
    · obtain ⟨q, hq⟩ : ∃ q : Nat, (i : Int) / 32 = (q : Int) := ⟨i / 32, by omega⟩
      obtain ⟨r, hr⟩ : ∃ r : Nat, (i : Int) % 32 = (r : Int) := ⟨i % 32, by omega⟩
      have eq : i / 32 = q := by omega
      have er : i % 32 = r := by omega
      have hb := bit_at (n := n) (i := i) HN.out.lt (by omega)
      rw [eq, er, HV.out] at hb
      obtain ⟨p, hix, -, -, ca⟩ := HN.out.rd.at_ cap q (by omega)
      have hi0 : (0 : Int) ≤ i := by omega
      have hib : (i : Int) ≤ 1125899906842624 := by omega
      have hr0 : (0 : Int) ≤ r := by omega
      have hr1 : (r : Int) < 32 := by omega
      have hfl := HN.out.lt q (by omega)
      have hand : bits .and .u32 (((f q : Nat) : Int) / 2 ^ r) 1 = ((f q / 2 ^ r % 2 : Nat) : Int) := by
        have e1 : ((f q : Nat) : Int) / 2 ^ r = ((f q / 2 ^ r : Nat) : Int) := by simp
        have h1 : f q / 2 ^ r < 4294967296 := Nat.lt_of_le_of_lt (Nat.div_le_self _ _) hfl
        have h2 := (bits_u32_nat (f q / 2 ^ r) 1 h1 (by omega)).1
        rw [e1]
        refine Eq.trans h2 ?_
        rw [Nat.and_one_is_mod]
      rw [hb] at hand
      have hcast : ((i + 1 : Nat) : Int) = (i : Int) + 1 := by omega
      have hm1 : (i : Int) + 1 - 1 = (i : Int) := by omega
      have hs1 : (0 : Int) < (i : Int) + 1 := by omega
      have hwr : IntKind.u64.wrap (r : Int) = (r : Int) := by rw [IntKind.wrap_u64]; omega
      have HC := Lib.hid hcast
      by_cases hz : V / 2 ^ i % 2 = 0
      · rw [hz] at hand
        have htst : (bits .and .u32 (((f q : Nat) : Int) / 2 ^ r) 1 == 0) = true := by rw [hand]; rfl
        have HN2 := Lib.hid (bit_off H.out hz)
        clear H hz hb hand eq er hfl
        go_wp2
        go_round
        case rel => exact ⟨i, by omega, rfl, HN2⟩
        case measure => first | (simp [intOf]; done) | (simp [intOf]; omega)
      · have h1 : V / 2 ^ i % 2 = 1 := by omega
        rw [h1] at hand
        have htst : (bits .and .u32 (((f q : Nat) : Int) / 2 ^ r) 1 == 0) = false := by rw [hand]; rfl
        have HE := Lib.hid (bl_is (bit_on h1) H.out)
        clear H hz hb hand eq er hfl h1
        go_wp2
        go_ret
        exact ⟨by rw [HE.out]; rfl, HB.out⟩
end Go.Proofs.Ytgegkffigjogcaa
namespace Go.Proofs.Ytgegkffigjogcaa
open Go.RowKit

theorem own_an {V : Nat} {v : Value} {w : World} (h : AN V v w) : Calls Try.prog 13 #[v] w fun e w' => ∃ u, e = .returned u ∧ NN V u w' ∧ Below w.heap.size w w' := by
  obtain ⟨n, f, ha, hn, hf, rfl⟩ := h
  exact own_any ha hn hf
theorem few_an {w : World} {v : Value} {n : Nat} {f : Nat → Nat} (h : ArgN w v n f) (hf : ∀ j, j < n → f j < 4294967296) (k : Nat) (hk : (k : Int) ≤ 1000) : ∃ V, V < 4294967296 ^ k ∧ Calls Try.prog 18 #[v, .int .i64 k] w fun e w' => ∃ u, e = .returned u ∧ AN V u w ∧ w = w' := by
  refine ⟨vb 4294967296 f (min n k), Nat.lt_of_lt_of_le (vb_lt (fun j hj => hf j (by omega))) (Nat.pow_le_pow_right (by omega) (by omega)), (few_any h k hk).mono ?_⟩
  rintro e w' ⟨u, rfl, hu, rfl⟩
  exact ⟨u, rfl, ⟨_, f, hu, by omega, fun j hj => hf j (by omega), rfl⟩, rfl⟩
theorem pv_nil (w : World) : PV 0 (.slice none 0 0) w := ⟨none, 0, 0, fun _ => 0, rfl, ⟨Nat.le_refl _, .inl rfl, (fun q hq => by cases hq), fun j hj => by omega, by omega⟩, rfl, .inl rfl⟩
theorem cd2_fit {A B k j : Nat} (hk : k ≤ 1024) (hj : j ≤ 1024) (hA : A < 4294967296 ^ k) (hB : B < 4294967296 ^ j) : cd2 A B = 0 := by unfold cd2; rw [if_pos (cd_fit hk hA), cd_fit hj hB]
theorem sgn_lt {A B : Nat} (h : A < B) : sgn A B = -1 := by unfold sgn; rw [if_pos h]
end Go.Proofs.Ytgegkffigjogcaa
namespace Go.Proofs.Ytgegkffigjogcaa
open Go.RowKit

theorem one_an (w : World) (x : Nat) (t : TypeId) (hx : x < 4294967296) : AN x (.slice (some ⟨w.heap.size, 0, none⟩) 1 1) (w.alloc (.cells #[.int .u32 (x : Nat)] t)) :=
  ⟨1, fun _ => x, ⟨_, 1, rfl, Nat.le_refl _, (fun h => by cases h), .inr ⟨w.heap.size, 0, rfl, by simp, fun j hj => by
    obtain rfl : j = 0 := by omega
    rw [cell_of_row _ _ _ _ _ _ (heap_alloc_new _ _)]; rfl⟩⟩, by omega, fun j _ => hx, by simp [vb]⟩
theorem exp_step0 {E k : Nat} (h : E / 2 ^ k % 2 = 0) : E % 2 ^ (k + 1) = E % 2 ^ k := by
  rw [Nat.pow_succ, Nat.mod_mul, h, Nat.mul_zero, Nat.add_zero]
theorem exp_step1 {A E M k : Nat} (h : E / 2 ^ k % 2 = 1) : (A ^ (E % 2 ^ k) % M) * (A ^ 2 ^ k % M) % M = A ^ (E % 2 ^ (k + 1)) % M := by
  rw [← Nat.mul_mod, ← Nat.pow_add]
  congr 2
  rw [Nat.pow_succ, Nat.mod_mul, h, Nat.mul_one]
theorem exp_sq {A M k : Nat} : (A ^ 2 ^ k % M) * (A ^ 2 ^ k % M) % M = A ^ 2 ^ (k + 1) % M := by
  rw [← Nat.mul_mod, ← Nat.pow_add]
  congr 2
  rw [Nat.pow_succ, Nat.mul_two]
theorem exp_done {A E M : Nat} : A ^ (E % 2 ^ blN E) % M = A ^ E % M := by
  congr 2
  apply Nat.mod_eq_of_lt
  by_cases e : E = 0
  · rw [e]; exact Nat.pow_pos (by omega)
  · unfold blN
    rw [if_neg e]
    exact (Nat.log2_lt e).1 (Nat.lt_succ_self _)
set_option maxRecDepth 100000 in
set_option maxHeartbeats 4000000 in
theorem rexp_zero {A E K : Nat} {u v x : Value} {w : World} (hK : K ≤ 100) (kA : A < 4294967296 ^ K) (kE : E < 4294967296 ^ K) (hA : AN A u w) (hE : AN E v w) (hM : AN 0 x w) :
    Calls Try.prog 32 #[u, v, x] w (AnsR 1 0 w) := by
  have ec := cd2_fit (k := K) (j := K) (by omega) (by omega) kA kE
  have HB := Lib.hid (both_an hA hE)
  have HC := Lib.hid (fun w' (h : AN 0 x w') => check_an h)
  rw [ec] at HB
  rw [small_cd (x := 0) (by omega)] at HC
  have UM := Lib.hid hM
  clear ec hA hE hM hK kA kE
  go_enter Try.func32, Try.ntmps32
  have HW : Hid (Below w.heap.size w w) := Lib.hid (Below.refl _ _)
  go_wp2_with fail
  refine (HB.out).mono ?_
  rintro e wn ⟨rfl, hb⟩
  replace UM := Lib.hid (UM.out.below hb)
  replace HW := Lib.hid (HW.out.trans (hb.mono HW.out.size))
  clear hb
  go_wp2_with fail
  refine (HC.out _ UM.out).mono ?_
  rintro e wn ⟨rfl, hb⟩
  replace UM := Lib.hid (UM.out.below hb)
  replace HW := Lib.hid (HW.out.trans (hb.mono HW.out.size))
  clear hb
  go_wp2_with fail
  refine (plain_an UM.out).mono ?_
  rintro e wn ⟨x1, rfl, hx, hb⟩
  replace UM := Lib.hid (UM.out.below hb)
  replace HW := Lib.hid (HW.out.trans (hb.mono HW.out.size))
  have P1 := Lib.hid (hx)
  clear hb
  clear hx
  obtain ⟨g, n, cap, f, rfl, hn, hv, ht⟩ := P1.out
  have hn0 : n = 0 := Nat.le_zero.1 ((plain_len (P := 4294967296) (m := 0) (by omega) hn.lt ht).1 (by rw [hv]; exact Nat.pow_pos (by omega)))
  clear P1 hv ht hn
  subst hn0
  go_wp2
  go_ret2
  exact ⟨_, rfl, fun h => absurd h (by decide), fun _ => rfl, HW.out⟩
set_option maxRecDepth 100000 in
set_option maxHeartbeats 8000000 in
theorem rexp_fit {A E M K : Nat} {u v x : Value} {w : World} (hK0 : 1 ≤ K) (hK : K ≤ 100) (kA : A < 4294967296 ^ K) (kE : E < 4294967296 ^ K) (kM : M < 4294967296 ^ K) (hM0 : 0 < M) (hA : AN A u w) (hE : AN E v w) (hM : AN M x w) :
    Calls Try.prog 32 #[u, v, x] w (AnsR 0 (A ^ E % M) w) := by
  have ec := cd2_fit (k := K) (j := K) (by omega) (by omega) kA kE
  have HB := Lib.hid (both_an hA hE)
  have HC := Lib.hid (fun w' (h : AN M x w') => check_an h)
  rw [ec] at HB
  rw [cd_fit (k := K) (by omega) kM] at HC
  have kK : 4294967296 ^ K ≤ 4294967296 ^ (2 * K) := Nat.pow_le_pow_right (by omega) (by omega)
  have k1 : 1 < 4294967296 ^ K := Nat.one_lt_pow (by omega) (by omega)
  have D1 := Lib.hid (fun y w' (hy : AN 1 y w') (h : AN M x w') => rdivide_an (K := K) (by omega) k1 kM hM0 hy h)
  have DA := Lib.hid (fun y w' (hy : AN A y w') (h : AN M x w') => rdivide_an (K := K) (by omega) kA kM hM0 hy h)
  have DG := Lib.hid (fun V y w' (hV : V < M) (hy : RP V y w') => digits_rp (k := K) (by omega) (Nat.lt_trans hV kM) hy)
  have PR := Lib.hid (fun V Y y z w' (hy : DD (2 * K) V y w') (hz : DD (2 * K) Y z w') => product_dd (by omega) (by omega) hy hz)
  have OF := Lib.hid (fun V y w' (hy : DD (2 * K + 2 * K) V y w') => of_dd (by omega) hy)
  have DP := Lib.hid (fun V Y y w' (hV : V < M) (hY : Y < M) (hy : AN (V * Y) y w') (h : AN M x w') => rdivide_an (K := 2 * K) (by omega) (by
      rw [Nat.two_mul, Nat.pow_add]
      exact Nat.lt_of_lt_of_le (Nat.mul_lt_mul'' hV hY) (Nat.mul_le_mul (Nat.le_of_lt kM) (Nat.le_of_lt kM))) (Nat.lt_of_lt_of_le kM kK) hM0 hy h)
  have ML := Lib.hid (fun V => Nat.mod_lt V hM0)
  have LE := Lib.hid (fun w' (h : AN E v w') => rlen_an h)
  have UA := Lib.hid hA
  have UE := Lib.hid hE
  have UM := Lib.hid hM
  obtain ⟨n, f, ⟨a, cap, rfl, hc, hn0, hr⟩, hn, hf, hv⟩ := hE
  have hLn : blN E ≤ 32 * n := blN_le (by rw [← pow_32, ← hv]; exact vb_lt hf)
  obtain ⟨L, hL⟩ : ∃ L, blN E = L := ⟨_, rfl⟩
  have ED := Lib.hid (exp_done (A := A) (E := E) (M := M))
  rw [hL] at LE hLn ED
  have HRV := Lib.hid (And.intro hr (And.intro hf hv))
  have HM0 := Lib.hid hM0
  clear ec hA hM hK0 hK kA kE kM kK k1 hc hn0 hr hf hv hL hM0
  go_enter Try.func32, Try.ntmps32
  have HW : Hid (Below w.heap.size w w) := Lib.hid (Below.refl _ _)
  go_wp2_with fail
  refine (HB.out).mono ?_
  rintro e wn ⟨rfl, hb⟩
  replace UA := Lib.hid (UA.out.below hb)
  replace UE := Lib.hid (UE.out.below hb)
  replace UM := Lib.hid (UM.out.below hb)
  replace HW := Lib.hid (HW.out.trans (hb.mono HW.out.size))
  clear hb
  go_wp2_with fail
  refine (HC.out _ UM.out).mono ?_
  rintro e wn ⟨rfl, hb⟩
  replace UA := Lib.hid (UA.out.below hb)
  replace UE := Lib.hid (UE.out.below hb)
  replace UM := Lib.hid (UM.out.below hb)
  replace HW := Lib.hid (HW.out.trans (hb.mono HW.out.size))
  clear hb
  go_wp2_with fail
  refine (plain_an UM.out).mono ?_
  rintro e wn ⟨x1, rfl, hx, hb⟩
  replace UA := Lib.hid (UA.out.below hb)
  replace UE := Lib.hid (UE.out.below hb)
  replace UM := Lib.hid (UM.out.below hb)
  replace HW := Lib.hid (HW.out.trans (hb.mono HW.out.size))
  have P1 := Lib.hid (hx)
  clear hb
  clear hx
  obtain ⟨g, nm, cm, fm, rfl, hnm, hvm, htm⟩ := P1.out
  have hnz : nm ≠ 0 := fun h => by
    have h1 : M = 0 := by rw [← hvm, h]; rfl
    have h2 := HM0.out
    omega
  have hn1 : ((nm : Int) == 0) = false := by simp [hnz]
  clear P1 hvm htm hnm hnz
  obtain ⟨w5, hw5⟩ : ∃ w5, wn.alloc (.cells #[.int .u32 1] 32) = w5 := ⟨_, rfl⟩
  have hb : Below wn.heap.size wn w5 := by rw [← hw5]; exact (Below.refl _ _).alloc (Nat.le_refl _) _
  have h1 : AN 1 (.slice (some ⟨wn.heap.size, 0, none⟩) 1 1) w5 := by rw [← hw5]; exact one_an wn 1 _ (by omega)
  replace UA := Lib.hid (UA.out.below hb)
  replace UE := Lib.hid (UE.out.below hb)
  replace UM := Lib.hid (UM.out.below hb)
  replace HW := Lib.hid (HW.out.trans (hb.mono HW.out.size))
  have ONE := Lib.hid h1
  clear hb h1
  go_wp2_with fail
  clear hw5
  refine (D1.out _ _ ONE.out UM.out).mono ?_
  rintro e wn ⟨x2, x3, rfl, -, hy, hb⟩
  replace UA := Lib.hid (UA.out.below hb)
  replace UE := Lib.hid (UE.out.below hb)
  replace UM := Lib.hid (UM.out.below hb)
  replace HW := Lib.hid (HW.out.trans (hb.mono HW.out.size))
  have P3 := Lib.hid (hy)
  clear hb
  clear hy ONE D1
  go_wp2_with fail
  refine (DA.out _ _ UA.out UM.out).mono ?_
  rintro e wn ⟨x4, x5, rfl, -, hy, hb⟩
  replace UE := Lib.hid (UE.out.below hb)
  replace UM := Lib.hid (UM.out.below hb)
  replace P3 := Lib.hid (P3.out.below hb)
  replace HW := Lib.hid (HW.out.trans (hb.mono HW.out.size))
  have P5 := Lib.hid (hy)
  clear hb UA
  clear hy DA HB HC
  have HI : Hid (RP (A ^ (E % 2 ^ 0) % M) x3 wn ∧ RP (A ^ 2 ^ 0 % M) x5 wn ∧ Below w.heap.size w wn) := Lib.hid ⟨by
    rw [Nat.pow_zero, Nat.mod_one, Nat.pow_zero]; exact P3.out, by rw [Nat.pow_zero, Nat.pow_one]; exact P5.out, HW.out⟩
  have UE0 := UE
  have UM0 := UM
  clear P3 P5 HW UE UM
  go_wp2_with fail
  go_loopw [11, 13, 14] (fun p q i wr => ∃ k : Nat, k ≤ L ∧ i = .int .i64 k ∧ Hid (RP (A ^ (E % 2 ^ k) % M) p wr ∧ RP (A ^ 2 ^ k % M) q wr ∧ Below w.heap.size w wr ∧ Below wn.heap.size wn wr)) (fun _ _ i _ => L - (intOf i).toNat)
  case atStart => exact ⟨0, Nat.zero_le _, rfl, Lib.hid ⟨HI.out.1, HI.out.2.1, HI.out.2.2, Below.refl _ _⟩⟩
  case round =>
    obtain ⟨k, hk, rfl, H⟩ := hrel
    have hk0 : (0 : Int) ≤ k := by omega
    have hkb : (k : Int) ≤ 1125899906842624 := by omega
    have UE := Lib.hid (UE0.out.below H.out.2.2.2)
    have UM := Lib.hid (UM0.out.below H.out.2.2.2)
    have PP := Lib.hid H.out.1
    have PQ := Lib.hid H.out.2.1
    have HW := Lib.hid H.out.2.2.1
    have HW2 := Lib.hid H.out.2.2.2
    clear H
    go_wp2_with fail
    refine (LE.out _ UE.out).mono ?_
    rintro e wn ⟨rfl, hb⟩
    have hb2 := hb
    replace UE := Lib.hid (UE.out.below hb)
    replace UM := Lib.hid (UM.out.below hb)
    replace PP := Lib.hid (PP.out.below hb)
    replace PQ := Lib.hid (PQ.out.below hb)
    replace HW := Lib.hid (HW.out.trans (hb.mono HW.out.size))
    clear hb
    replace HW2 := Lib.hid (HW2.out.trans (hb2.mono HW2.out.size))
    clear hb2
    by_cases hlt : k < L
    · have hlt' : (k : Int) < L := by omega
      obtain ⟨q, hq⟩ : ∃ q : Nat, (k : Int) / 32 = (q : Int) := ⟨k / 32, by omega⟩
      obtain ⟨r, hr⟩ : ∃ r : Nat, (k : Int) % 32 = (r : Int) := ⟨k % 32, by omega⟩
      have eq : k / 32 = q := by omega
      have er : k % 32 = r := by omega
      have hb := bit_at (n := n) (i := k) HRV.out.2.1 (by omega)
      rw [eq, er, HRV.out.2.2] at hb
      obtain ⟨p, hix, hpb, -, cp⟩ := HRV.out.1.at_ cap q (by omega)
      have ca : wn.cell? p = some (.int .u32 (f q : Nat)) := (HW.out.cell hpb).trans cp
      have hq0 : (0 : Int) ≤ q := by omega
      have hr0 : (0 : Int) ≤ r := by omega
      have hr1 : (r : Int) < 32 := by omega
      have hfl := HRV.out.2.1 q (by omega)
      have hand : bits .and .u32 (((f q : Nat) : Int) / 2 ^ r) 1 = ((f q / 2 ^ r % 2 : Nat) : Int) := by
        have e1 : ((f q : Nat) : Int) / 2 ^ r = ((f q / 2 ^ r : Nat) : Int) := by simp
        have h1 : f q / 2 ^ r < 4294967296 := Nat.lt_of_le_of_lt (Nat.div_le_self _ _) hfl
        have h2 := (bits_u32_nat (f q / 2 ^ r) 1 h1 (by omega)).1
        rw [e1]
        refine Eq.trans h2 ?_
        rw [Nat.and_one_is_mod]
      rw [hb] at hand
      have hwr : IntKind.u64.wrap (r : Int) = (r : Int) := by rw [IntKind.wrap_u64]; omega
      have X1 := Lib.hid (exp_sq (A := A) (M := M) (k := k))
      have L1 := Lib.hid (ML.out (A ^ (E % 2 ^ k)))
      have L2 := Lib.hid (ML.out (A ^ 2 ^ k))
      clear cp hpb eq er hfl
      by_cases hz : E / 2 ^ k % 2 = 0
      · rw [hz] at hand
        have htst : (bits .and .u32 (((f q : Nat) : Int) / 2 ^ r) 1 == 1) = false := by rw [hand]; rfl
        have X0 := Lib.hid (exp_step0 hz)
        have hb0 : True := trivial
        clear hz hb
        go_wp2_with fail
        refine (DG.out _ _ _ L2.out PQ.out).mono ?_
        rintro e wn ⟨y1, rfl, hx, hb⟩
        have hb2 := hb
        replace UE := Lib.hid (UE.out.below hb)
        replace UM := Lib.hid (UM.out.below hb)
        replace PP := Lib.hid (PP.out.below hb)
        replace PQ := Lib.hid (PQ.out.below hb)
        replace HW := Lib.hid (HW.out.trans (hb.mono HW.out.size))
        have E1 := Lib.hid (hx)
        clear hb
        replace HW2 := Lib.hid (HW2.out.trans (hb2.mono HW2.out.size))
        clear hb2
        clear hx
        go_wp2_with fail
        refine (DG.out _ _ _ L2.out PQ.out).mono ?_
        rintro e wn ⟨y2, rfl, hx, hb⟩
        have hb2 := hb
        replace UE := Lib.hid (UE.out.below hb)
        replace UM := Lib.hid (UM.out.below hb)
        replace PP := Lib.hid (PP.out.below hb)
        replace E1 := Lib.hid (E1.out.below hb)
        replace HW := Lib.hid (HW.out.trans (hb.mono HW.out.size))
        have E2 := Lib.hid (hx)
        clear hb PQ
        replace HW2 := Lib.hid (HW2.out.trans (hb2.mono HW2.out.size))
        clear hb2
        clear hx
        go_wp2_with fail
        refine (PR.out _ _ _ _ _ E1.out E2.out).mono ?_
        rintro e wn ⟨y3, rfl, hx, hb⟩
        have hb2 := hb
        replace UE := Lib.hid (UE.out.below hb)
        replace UM := Lib.hid (UM.out.below hb)
        replace PP := Lib.hid (PP.out.below hb)
        replace HW := Lib.hid (HW.out.trans (hb.mono HW.out.size))
        have E3 := Lib.hid (hx)
        clear hb E1 E2
        replace HW2 := Lib.hid (HW2.out.trans (hb2.mono HW2.out.size))
        clear hb2
        clear hx
        go_wp2_with fail
        refine (OF.out _ _ _ E3.out).mono ?_
        rintro e wn ⟨y4, rfl, hx, hb⟩
        have hb2 := hb
        replace UE := Lib.hid (UE.out.below hb)
        replace UM := Lib.hid (UM.out.below hb)
        replace PP := Lib.hid (PP.out.below hb)
        replace HW := Lib.hid (HW.out.trans (hb.mono HW.out.size))
        have E4 := Lib.hid (hx)
        clear hb E3
        replace HW2 := Lib.hid (HW2.out.trans (hb2.mono HW2.out.size))
        clear hb2
        clear hx
        go_wp2_with fail
        refine (DP.out _ _ _ _ L2.out L2.out E4.out.an UM.out).mono ?_
        rintro e wn ⟨y5, y6, rfl, -, hx, hb⟩
        rw [X1.out] at hx
        have hb2 := hb
        replace UE := Lib.hid (UE.out.below hb)
        replace PP := Lib.hid (PP.out.below hb)
        replace HW := Lib.hid (HW.out.trans (hb.mono HW.out.size))
        have E6 := Lib.hid (hx)
        clear hb E4 UM
        replace HW2 := Lib.hid (HW2.out.trans (hb2.mono HW2.out.size))
        clear hb2
        clear hx
        clear hix ca hand htst hwr hq hr hq0 hr0 hr1 hb0
        go_wp2
        go_roundw
        case rel => exact ⟨k + 1, by omega, by go_num, Lib.hid ⟨by rw [X0.out]; exact PP.out, E6.out, HW.out, HW2.out⟩⟩
        case measure => first | (simp [intOf]; done) | (simp [intOf]; omega)
      · have h1 : E / 2 ^ k % 2 = 1 := by omega
        rw [h1] at hand
        have htst : (bits .and .u32 (((f q : Nat) : Int) / 2 ^ r) 1 == 1) = true := by rw [hand]; rfl
        have X0 := Lib.hid (exp_step1 (A := A) (M := M) h1)
        have hb0 : True := trivial
        clear hz hb h1
        go_wp2_with fail
        refine (DG.out _ _ _ L1.out PP.out).mono ?_
        rintro e wn ⟨y1, rfl, hx, hb⟩
        have hb2 := hb
        replace UE := Lib.hid (UE.out.below hb)
        replace UM := Lib.hid (UM.out.below hb)
        replace PQ := Lib.hid (PQ.out.below hb)
        replace HW := Lib.hid (HW.out.trans (hb.mono HW.out.size))
        have E1 := Lib.hid (hx)
        clear hb PP
        replace HW2 := Lib.hid (HW2.out.trans (hb2.mono HW2.out.size))
        clear hb2
        clear hx
        go_wp2_with fail
        refine (DG.out _ _ _ L2.out PQ.out).mono ?_
        rintro e wn ⟨y2, rfl, hx, hb⟩
        have hb2 := hb
        replace UE := Lib.hid (UE.out.below hb)
        replace UM := Lib.hid (UM.out.below hb)
        replace PQ := Lib.hid (PQ.out.below hb)
        replace E1 := Lib.hid (E1.out.below hb)
        replace HW := Lib.hid (HW.out.trans (hb.mono HW.out.size))
        have E2 := Lib.hid (hx)
        clear hb
        replace HW2 := Lib.hid (HW2.out.trans (hb2.mono HW2.out.size))
        clear hb2
        clear hx
        go_wp2_with fail
        refine (PR.out _ _ _ _ _ E1.out E2.out).mono ?_
        rintro e wn ⟨y3, rfl, hx, hb⟩
        have hb2 := hb
        replace UE := Lib.hid (UE.out.below hb)
        replace UM := Lib.hid (UM.out.below hb)
        replace PQ := Lib.hid (PQ.out.below hb)
        replace HW := Lib.hid (HW.out.trans (hb.mono HW.out.size))
        have E3 := Lib.hid (hx)
        clear hb E1 E2
        replace HW2 := Lib.hid (HW2.out.trans (hb2.mono HW2.out.size))
        clear hb2
        clear hx
        go_wp2_with fail
        refine (OF.out _ _ _ E3.out).mono ?_
        rintro e wn ⟨y4, rfl, hx, hb⟩
        have hb2 := hb
        replace UE := Lib.hid (UE.out.below hb)
        replace UM := Lib.hid (UM.out.below hb)
        replace PQ := Lib.hid (PQ.out.below hb)
        replace HW := Lib.hid (HW.out.trans (hb.mono HW.out.size))
        have E4 := Lib.hid (hx)
        clear hb E3
        replace HW2 := Lib.hid (HW2.out.trans (hb2.mono HW2.out.size))
        clear hb2
        clear hx
        go_wp2_with fail
        refine (DP.out _ _ _ _ L1.out L2.out E4.out.an UM.out).mono ?_
        rintro e wn ⟨y5, y6, rfl, -, hx, hb⟩
        rw [X0.out] at hx
        have hb2 := hb
        replace UE := Lib.hid (UE.out.below hb)
        replace UM := Lib.hid (UM.out.below hb)
        replace PQ := Lib.hid (PQ.out.below hb)
        replace HW := Lib.hid (HW.out.trans (hb.mono HW.out.size))
        have PP := Lib.hid (hx)
        clear hb E4
        replace HW2 := Lib.hid (HW2.out.trans (hb2.mono HW2.out.size))
        clear hb2
        clear hx
        go_wp2_with fail
        refine (DG.out _ _ _ L2.out PQ.out).mono ?_
        rintro e wn ⟨y1, rfl, hx, hb⟩
        have hb2 := hb
        replace UE := Lib.hid (UE.out.below hb)
        replace UM := Lib.hid (UM.out.below hb)
        replace PP := Lib.hid (PP.out.below hb)
        replace PQ := Lib.hid (PQ.out.below hb)
        replace HW := Lib.hid (HW.out.trans (hb.mono HW.out.size))
        have E1 := Lib.hid (hx)
        clear hb
        replace HW2 := Lib.hid (HW2.out.trans (hb2.mono HW2.out.size))
        clear hb2
        clear hx
        go_wp2_with fail
        refine (DG.out _ _ _ L2.out PQ.out).mono ?_
        rintro e wn ⟨y2, rfl, hx, hb⟩
        have hb2 := hb
        replace UE := Lib.hid (UE.out.below hb)
        replace UM := Lib.hid (UM.out.below hb)
        replace PP := Lib.hid (PP.out.below hb)
        replace E1 := Lib.hid (E1.out.below hb)
        replace HW := Lib.hid (HW.out.trans (hb.mono HW.out.size))
        have E2 := Lib.hid (hx)
        clear hb PQ
        replace HW2 := Lib.hid (HW2.out.trans (hb2.mono HW2.out.size))
        clear hb2
        clear hx
        go_wp2_with fail
        refine (PR.out _ _ _ _ _ E1.out E2.out).mono ?_
        rintro e wn ⟨y3, rfl, hx, hb⟩
        have hb2 := hb
        replace UE := Lib.hid (UE.out.below hb)
        replace UM := Lib.hid (UM.out.below hb)
        replace PP := Lib.hid (PP.out.below hb)
        replace HW := Lib.hid (HW.out.trans (hb.mono HW.out.size))
        have E3 := Lib.hid (hx)
        clear hb E1 E2
        replace HW2 := Lib.hid (HW2.out.trans (hb2.mono HW2.out.size))
        clear hb2
        clear hx
        go_wp2_with fail
        refine (OF.out _ _ _ E3.out).mono ?_
        rintro e wn ⟨y4, rfl, hx, hb⟩
        have hb2 := hb
        replace UE := Lib.hid (UE.out.below hb)
        replace UM := Lib.hid (UM.out.below hb)
        replace PP := Lib.hid (PP.out.below hb)
        replace HW := Lib.hid (HW.out.trans (hb.mono HW.out.size))
        have E4 := Lib.hid (hx)
        clear hb E3
        replace HW2 := Lib.hid (HW2.out.trans (hb2.mono HW2.out.size))
        clear hb2
        clear hx
        go_wp2_with fail
        refine (DP.out _ _ _ _ L2.out L2.out E4.out.an UM.out).mono ?_
        rintro e wn ⟨y5, y6, rfl, -, hx, hb⟩
        rw [X1.out] at hx
        have hb2 := hb
        replace UE := Lib.hid (UE.out.below hb)
        replace PP := Lib.hid (PP.out.below hb)
        replace HW := Lib.hid (HW.out.trans (hb.mono HW.out.size))
        have E6 := Lib.hid (hx)
        clear hb E4 UM
        replace HW2 := Lib.hid (HW2.out.trans (hb2.mono HW2.out.size))
        clear hb2
        clear hx
        clear hix ca hand htst hwr hq hr hq0 hr0 hr1 hb0
        go_wp2
        go_roundw
        case rel => exact ⟨k + 1, by omega, by go_num, Lib.hid ⟨PP.out, E6.out, HW.out, HW2.out⟩⟩
        case measure => first | (simp [intOf]; done) | (simp [intOf]; omega)
    · obtain rfl : k = L := by omega
      have HF : Hid (RP (A ^ E % M) _ wn) := Lib.hid (by rw [← ED.out]; exact PP.out)
      clear PP PQ
      go_wp2
      go_ret2
      exact ⟨_, rfl, fun _ => HF.out, fun h => absurd rfl h, HW.out⟩
end Go.Proofs.Ytgegkffigjogcaa
namespace Go.Proofs.Ytgegkffigjogcaa
open Go.RowKit

theorem few_eq (a : Option Addr) (n cap k m : Nat) (hc : n ≤ cap) (hk : (k : Int) ≤ 1000) (hm : min n k = m) (w : World) : Calls Try.prog 18 #[.slice a n cap, .int .i64 k] w fun e w' => e = .returned (.slice a m cap) ∧ w' = w := by
  have hk0 : (0 : Int) ≤ k := by omega
  by_cases hlt : k < n
  · have hlt' : (k : Int) < n := by omega
    have hsl := slice_nat a n cap k (by omega)
    obtain rfl : k = m := by omega
    clear hm
    go_enter Try.func18, Try.ntmps18
    go_wp2
    go_ret
    exact ⟨rfl, rfl⟩
  · have hlt' : ¬ (k : Int) < n := by omega
    obtain rfl : n = m := by omega
    clear hm
    go_enter Try.func18, Try.ntmps18
    go_wp2
    go_ret
    exact ⟨rfl, rfl⟩
theorem few_cut {w : World} {v : Value} {n : Nat} {f : Nat → Nat} (h : ArgN w v n f) (hf : ∀ j, j < n → f j < 4294967296) (k : Nat) (hk : (k : Int) ≤ 1000) (z : Int) (hz : z = (k : Int)) :
    ∃ a cap m V, v = .slice a n cap ∧ V < 4294967296 ^ k ∧ AN V (.slice a m cap) w ∧ ∀ w', Calls Try.prog 18 #[.slice a n cap, .int .i64 z] w' fun e w'' => e = .returned (.slice a m cap) ∧ w'' = w' := by
  obtain ⟨a, cap, rfl, hc, hn, hr⟩ := h
  subst hz
  exact ⟨a, cap, min n k, vb 4294967296 f (min n k), rfl, Nat.lt_of_lt_of_le (vb_lt (fun j hj => hf j (by omega))) (Nat.pow_le_pow_right (by omega) (by omega)),
    ⟨min n k, f, ⟨a, cap, rfl, by omega, hn, hr.less _ (by omega)⟩, by omega, fun j hj => hf j (by omega), rfl⟩, fun w' => few_eq a n cap k _ hc hk rfl w'⟩
theorem exp_fit {A E M K : Nat} {u v x : Value} {w : World} (hK : K ≤ 100) (kA : A < 4294967296 ^ K) (kE : E < 4294967296 ^ K) (kM : M < 4294967296 ^ K) (hM0 : 0 < M) (hA : NN A u w) (hE : NN E v w) (hM : NN M x w) : Calls Try.prog 31 #[u, v, x] w (Ans 0 (A ^ E % M) w) := by
  have h := exp_api hA hE hM
  have e : cdP A E M = 0 := by
    unfold cdP cd3
    rw [if_pos (cd2_fit (k := K) (j := K) (by omega) (by omega) kA kE), if_pos (cd_fit (k := K) (by omega) kM), if_neg (by omega)]
  rw [e] at h
  exact h
theorem exp_zero {A E K : Nat} {u v x : Value} {w : World} (hK : K ≤ 100) (kA : A < 4294967296 ^ K) (kE : E < 4294967296 ^ K) (hA : NN A u w) (hE : NN E v w) (hM : NN 0 x w) : Calls Try.prog 31 #[u, v, x] w (Ans 1 (A ^ E % 0) w) := by
  have h := exp_api hA hE hM
  have e : cdP A E 0 = 1 := by
    unfold cdP cd3
    rw [if_pos (cd2_fit (k := K) (j := K) (by omega) (by omega) kA kE), if_pos (small_cd (by omega)), if_pos rfl]
  rw [e] at h
  exact h
theorem divmod_fit {A M K : Nat} {u x : Value} {w : World} (hK : K ≤ 100) (kA : A < 4294967296 ^ K) (kM : M < 4294967296 ^ K) (hM0 : 0 < M) (hA : NN A u w) (hM : NN M x w) : Calls Try.prog 28 #[u, x] w (Ans3 0 (A / M) (A % M) w) := by
  have h := divmod_api hA hM
  have e : cdD A M = 0 := by
    unfold cdD
    rw [if_pos (cd2_fit (k := K) (j := K) (by omega) (by omega) kA kM), if_neg (by omega)]
  rw [e] at h
  exact h
theorem up_lt {A k j : Nat} (h : k ≤ j) (hA : A < 4294967296 ^ k) : A < 4294967296 ^ j := Nat.lt_of_lt_of_le hA (Nat.pow_le_pow_right (by omega) h)
set_option maxRecDepth 100000 in
set_option maxHeartbeats 8000000 in
theorem powers_any {w : World} {v0 v1 v2 v3 : Value} {n0 n1 n2 n3 : Nat} {f0 f1 f2 f3 : Nat → Nat} (h0 : ArgN w v0 n0 f0) (h1 : ArgN w v1 n1 f1) (h2 : ArgN w v2 n2 f2) (h3 : ArgN w v3 n3 f3)
    (l0 : ∀ j, j < n0 → f0 j < 4294967296) (l1 : ∀ j, j < n1 → f1 j < 4294967296) (l2 : ∀ j, j < n2 → f2 j < 4294967296) (l3 : ∀ j, j < n3 → f3 j < 4294967296) :
    Calls Try.prog 6 #[.agg #[v0, v1, v2], v3] w fun e w' => e = .returned (.bool true) ∧ Below w.heap.size w w' := by
  obtain ⟨a0, c0, m0, A, rfl, kA, hA, fA⟩ := few_cut h0 l0 6 (by omega) 6 rfl
  obtain ⟨a1, c1, m1, E, rfl, kE, hE, fE⟩ := few_cut h1 l1 3 (by omega) 3 rfl
  obtain ⟨a2, c2, m2, F, rfl, kF, hF, fF⟩ := few_cut h2 l2 3 (by omega) 3 rfl
  obtain ⟨a3, c3, m3, M, rfl, kM, hM, fM⟩ := few_cut h3 l3 6 (by omega) 6 rfl
  have UA := Lib.hid hA
  have UE := Lib.hid hE
  have UF := Lib.hid hF
  have UM := Lib.hid hM
  have FA := Lib.hid fA
  have FE := Lib.hid fE
  have FF := Lib.hid fF
  have FM := Lib.hid fM
  have kE' := up_lt (j := 6) (by omega) kE
  have kF' := up_lt (j := 6) (by omega) kF
  clear h0 h1 h2 h3 l0 l1 l2 l3 hA hE hF hM fA fE fF fM
  by_cases hM0 : M = 0
  · subst hM0
    have EX := Lib.hid (fun x y z w' (hx : NN A x w') (hy : NN E y w') (hz : NN 0 z w') => exp_zero (by omega) kA kE' hx hy hz)
    have RX := Lib.hid (fun x y z w' (hx : AN A x w') (hy : AN E y w') (hz : AN 0 z w') => rexp_zero (by omega) kA kE' hx hy hz)
    clear kA kE kF kM kE' kF'
    go_enter Try.func6, Try.ntmps6
    have HW : Hid (Below w.heap.size w w) := Lib.hid (Below.refl _ _)
    go_wp2_with fail
    go_quiet ((go_at_call 18; first | (with_reducible exact Calls.quiet_of_same (FA.out _)) | (with_reducible exact Calls.quiet_of_same (FE.out _)) | (with_reducible exact Calls.quiet_of_same (FF.out _))))
    obtain ⟨w2, hw2⟩ : ∃ w2, World.drewN (w.alloc (.cells #[.slice a0 n0 c0, .slice a1 n1 c1, .slice a2 n2 c2] 40)) nq = w2 := ⟨_, rfl⟩
    have hb : Below w.heap.size w w2 := by rw [← hw2]; exact below_drewN ((Below.refl _ _).alloc (Nat.le_refl _) _) _
    replace UA := Lib.hid (UA.out.below hb)
    replace UE := Lib.hid (UE.out.below hb)
    replace UF := Lib.hid (UF.out.below hb)
    replace UM := Lib.hid (UM.out.below hb)
    replace HW := Lib.hid hb
    clear hb
    rw [hw2]
    clear hw2
    go_wp2_with fail
    refine (FM.out _).mono ?_
    rintro e w' ⟨rfl, hw'⟩
    subst hw'
    clear FA FE FF FM
    go_wp2_with fail
    refine (own_an UA.out).mono ?_
    rintro e wn ⟨x1, rfl, hx, hb⟩
    replace UA := Lib.hid (UA.out.below hb)
    replace UE := Lib.hid (UE.out.below hb)
    replace UF := Lib.hid (UF.out.below hb)
    replace UM := Lib.hid (UM.out.below hb)
    replace HW := Lib.hid (HW.out.trans (hb.mono HW.out.size))
    have Nx1 := Lib.hid (hx)
    clear hb
    clear hx
    go_wp2_with fail
    refine (own_an UE.out).mono ?_
    rintro e wn ⟨x2, rfl, hx, hb⟩
    replace UA := Lib.hid (UA.out.below hb)
    replace UE := Lib.hid (UE.out.below hb)
    replace UF := Lib.hid (UF.out.below hb)
    replace UM := Lib.hid (UM.out.below hb)
    replace Nx1 := Lib.hid (Nx1.out.below hb)
    replace HW := Lib.hid (HW.out.trans (hb.mono HW.out.size))
    have Nx2 := Lib.hid (hx)
    clear hb
    clear hx
    go_wp2_with fail
    refine (own_an UM.out).mono ?_
    rintro e wn ⟨x3, rfl, hx, hb⟩
    replace UA := Lib.hid (UA.out.below hb)
    replace UE := Lib.hid (UE.out.below hb)
    replace UF := Lib.hid (UF.out.below hb)
    replace UM := Lib.hid (UM.out.below hb)
    replace Nx1 := Lib.hid (Nx1.out.below hb)
    replace Nx2 := Lib.hid (Nx2.out.below hb)
    replace HW := Lib.hid (HW.out.trans (hb.mono HW.out.size))
    have Nx3 := Lib.hid (hx)
    clear hb
    clear hx
    go_wp2_with fail
    refine (EX.out _ _ _ _ Nx1.out Nx2.out Nx3.out).mono ?_
    rintro e wn ⟨x4, rfl, -, hz, hb⟩
    obtain rfl := hz (by decide)
    clear hz
    replace UA := Lib.hid (UA.out.below hb)
    replace UE := Lib.hid (UE.out.below hb)
    replace UF := Lib.hid (UF.out.below hb)
    replace UM := Lib.hid (UM.out.below hb)
    replace HW := Lib.hid (HW.out.trans (hb.mono HW.out.size))
    clear hb Nx1 Nx2 Nx3
    go_wp2_with fail
    refine (RX.out _ _ _ _ UA.out UE.out UM.out).mono ?_
    rintro e wn ⟨x5, rfl, -, hz, hb⟩
    obtain rfl := hz (by decide)
    clear hz
    replace UA := Lib.hid (UA.out.below hb)
    replace UE := Lib.hid (UE.out.below hb)
    replace UF := Lib.hid (UF.out.below hb)
    replace UM := Lib.hid (UM.out.below hb)
    replace HW := Lib.hid (HW.out.trans (hb.mono HW.out.size))
    clear hb
    go_wp2_with fail
    refine (same_nn (pv_nil _) (pv_nil _)).mono ?_
    rintro e wn ⟨rfl, hb⟩
    replace UA := Lib.hid (UA.out.below hb)
    replace UE := Lib.hid (UE.out.below hb)
    replace UF := Lib.hid (UF.out.below hb)
    replace UM := Lib.hid (UM.out.below hb)
    replace HW := Lib.hid (HW.out.trans (hb.mono HW.out.size))
    clear hb
    go_wp2_with fail
    refine (lives_any _).mono ?_
    rintro e wn ⟨rfl, hb⟩
    replace UA := Lib.hid (UA.out.below hb)
    replace UE := Lib.hid (UE.out.below hb)
    replace UF := Lib.hid (UF.out.below hb)
    replace UM := Lib.hid (UM.out.below hb)
    replace HW := Lib.hid (HW.out.trans (hb.mono HW.out.size))
    clear hb
    go_wp2
    go_ret
    exact ⟨rfl, HW.out⟩
  · have hM1 : 0 < M := by omega
    have EX := Lib.hid (fun x y z w' (hx : NN A x w') (hy : NN E y w') (hz : NN M z w') => exp_fit (by omega) kA kE' kM hM1 hx hy hz)
    have EF := Lib.hid (fun x y z w' (hx : NN A x w') (hy : NN F y w') (hz : NN M z w') => exp_fit (by omega) kA kF' kM hM1 hx hy hz)
    have ES := Lib.hid (fun x y z w' (hx : NN A x w') (hy : NN (E + F) y w') (hz : NN M z w') => exp_fit (by omega) kA (up_lt (by omega) (fit_add (by omega) kE kF)) kM hM1 hx hy hz)
    have RX := Lib.hid (fun x y z w' (hx : AN A x w') (hy : AN E y w') (hz : AN M z w') => rexp_fit (by omega) (by omega) kA kE' kM hM1 hx hy hz)
    have AD := Lib.hid (fun x y w' (hx : NN E x w') (hy : NN F y w') => add_fit (by omega) kE kF hx hy)
    have b1 : A ^ E % M < 4294967296 ^ 6 := Nat.lt_trans (Nat.mod_lt _ hM1) kM
    have b2 : A ^ F % M < 4294967296 ^ 6 := Nat.lt_trans (Nat.mod_lt _ hM1) kM
    have MU := Lib.hid (fun x y w' (hx : NN (A ^ E % M) x w') (hy : NN (A ^ F % M) y w') => mul_fit (k := 6) (j := 6) (by omega) b1 b2 hx hy)
    have DM := Lib.hid (fun x y w' (hx : NN ((A ^ E % M) * (A ^ F % M)) x w') (hy : NN M y w') => divmod_fit (K := 12) (by omega) (by
      rw [show 12 = 6 + 6 by rfl, Nat.pow_add]
      exact Nat.mul_lt_mul'' b1 b2) (up_lt (by omega) kM) hM1 hx hy)
    have em : (A ^ E % M) * (A ^ F % M) % M = A ^ (E + F) % M := by rw [← Nat.mul_mod, ← Nat.pow_add]
    rw [em] at DM
    clear kA kE kF kM kE' kF' hM0 hM1 b1 b2 em
    go_enter Try.func6, Try.ntmps6
    have HW : Hid (Below w.heap.size w w) := Lib.hid (Below.refl _ _)
    go_wp2_with fail
    go_quiet ((go_at_call 18; first | (with_reducible exact Calls.quiet_of_same (FA.out _)) | (with_reducible exact Calls.quiet_of_same (FE.out _)) | (with_reducible exact Calls.quiet_of_same (FF.out _))))
    obtain ⟨w2, hw2⟩ : ∃ w2, World.drewN (w.alloc (.cells #[.slice a0 n0 c0, .slice a1 n1 c1, .slice a2 n2 c2] 40)) nq = w2 := ⟨_, rfl⟩
    have hb : Below w.heap.size w w2 := by rw [← hw2]; exact below_drewN ((Below.refl _ _).alloc (Nat.le_refl _) _) _
    replace UA := Lib.hid (UA.out.below hb)
    replace UE := Lib.hid (UE.out.below hb)
    replace UF := Lib.hid (UF.out.below hb)
    replace UM := Lib.hid (UM.out.below hb)
    replace HW := Lib.hid hb
    clear hb
    rw [hw2]
    clear hw2
    go_wp2_with fail
    refine (FM.out _).mono ?_
    rintro e w' ⟨rfl, hw'⟩
    subst hw'
    clear FA FE FF FM
    go_wp2_with fail
    refine (own_an UA.out).mono ?_
    rintro e wn ⟨x1, rfl, hx, hb⟩
    replace UA := Lib.hid (UA.out.below hb)
    replace UE := Lib.hid (UE.out.below hb)
    replace UF := Lib.hid (UF.out.below hb)
    replace UM := Lib.hid (UM.out.below hb)
    replace HW := Lib.hid (HW.out.trans (hb.mono HW.out.size))
    have Nx1 := Lib.hid (hx)
    clear hb
    clear hx
    go_wp2_with fail
    refine (own_an UE.out).mono ?_
    rintro e wn ⟨x2, rfl, hx, hb⟩
    replace UA := Lib.hid (UA.out.below hb)
    replace UE := Lib.hid (UE.out.below hb)
    replace UF := Lib.hid (UF.out.below hb)
    replace UM := Lib.hid (UM.out.below hb)
    replace Nx1 := Lib.hid (Nx1.out.below hb)
    replace HW := Lib.hid (HW.out.trans (hb.mono HW.out.size))
    have Nx2 := Lib.hid (hx)
    clear hb
    clear hx
    go_wp2_with fail
    refine (own_an UM.out).mono ?_
    rintro e wn ⟨x3, rfl, hx, hb⟩
    replace UA := Lib.hid (UA.out.below hb)
    replace UE := Lib.hid (UE.out.below hb)
    replace UF := Lib.hid (UF.out.below hb)
    replace UM := Lib.hid (UM.out.below hb)
    replace Nx1 := Lib.hid (Nx1.out.below hb)
    replace Nx2 := Lib.hid (Nx2.out.below hb)
    replace HW := Lib.hid (HW.out.trans (hb.mono HW.out.size))
    have Nx3 := Lib.hid (hx)
    clear hb
    clear hx
    go_wp2_with fail
    refine (EX.out _ _ _ _ Nx1.out Nx2.out Nx3.out).mono ?_
    rintro e wn ⟨x4, rfl, hx, -, hb⟩
    replace hx := hx rfl
    replace UA := Lib.hid (UA.out.below hb)
    replace UE := Lib.hid (UE.out.below hb)
    replace UF := Lib.hid (UF.out.below hb)
    replace UM := Lib.hid (UM.out.below hb)
    replace HW := Lib.hid (HW.out.trans (hb.mono HW.out.size))
    have PX := Lib.hid (hx)
    clear hb Nx1 Nx2 Nx3
    clear hx
    go_wp2_with fail
    refine (RX.out _ _ _ _ UA.out UE.out UM.out).mono ?_
    rintro e wn ⟨x5, rfl, hx, -, hb⟩
    replace hx := hx rfl
    replace UA := Lib.hid (UA.out.below hb)
    replace UE := Lib.hid (UE.out.below hb)
    replace UF := Lib.hid (UF.out.below hb)
    replace UM := Lib.hid (UM.out.below hb)
    replace PX := Lib.hid (PX.out.below hb)
    replace HW := Lib.hid (HW.out.trans (hb.mono HW.out.size))
    have PY := Lib.hid (hx)
    clear hb
    clear hx
    go_wp2_with fail
    refine (same_nn PX.out PY.out.pv).mono ?_
    rintro e wn ⟨rfl, hb⟩
    replace UA := Lib.hid (UA.out.below hb)
    replace UE := Lib.hid (UE.out.below hb)
    replace UF := Lib.hid (UF.out.below hb)
    replace UM := Lib.hid (UM.out.below hb)
    replace PX := Lib.hid (PX.out.below hb)
    replace HW := Lib.hid (HW.out.trans (hb.mono HW.out.size))
    clear hb PY
    go_wp2_with fail
    refine (own_an UE.out).mono ?_
    rintro e wn ⟨x6, rfl, hx, hb⟩
    replace UA := Lib.hid (UA.out.below hb)
    replace UE := Lib.hid (UE.out.below hb)
    replace UF := Lib.hid (UF.out.below hb)
    replace UM := Lib.hid (UM.out.below hb)
    replace PX := Lib.hid (PX.out.below hb)
    replace HW := Lib.hid (HW.out.trans (hb.mono HW.out.size))
    have Nx6 := Lib.hid (hx)
    clear hb
    clear hx
    go_wp2_with fail
    refine (own_an UF.out).mono ?_
    rintro e wn ⟨x7, rfl, hx, hb⟩
    replace UA := Lib.hid (UA.out.below hb)
    replace UE := Lib.hid (UE.out.below hb)
    replace UF := Lib.hid (UF.out.below hb)
    replace UM := Lib.hid (UM.out.below hb)
    replace PX := Lib.hid (PX.out.below hb)
    replace Nx6 := Lib.hid (Nx6.out.below hb)
    replace HW := Lib.hid (HW.out.trans (hb.mono HW.out.size))
    have Nx7 := Lib.hid (hx)
    clear hb
    clear hx
    go_wp2_with fail
    refine (AD.out _ _ _ Nx6.out Nx7.out).mono ?_
    rintro e wn ⟨x8, rfl, hx, -, hb⟩
    replace hx := hx rfl
    replace UA := Lib.hid (UA.out.below hb)
    replace UE := Lib.hid (UE.out.below hb)
    replace UF := Lib.hid (UF.out.below hb)
    replace UM := Lib.hid (UM.out.below hb)
    replace PX := Lib.hid (PX.out.below hb)
    replace HW := Lib.hid (HW.out.trans (hb.mono HW.out.size))
    have PS := Lib.hid (hx)
    clear hb Nx6 Nx7
    clear hx
    go_wp2_with fail
    refine (own_an UA.out).mono ?_
    rintro e wn ⟨x9, rfl, hx, hb⟩
    replace UA := Lib.hid (UA.out.below hb)
    replace UE := Lib.hid (UE.out.below hb)
    replace UF := Lib.hid (UF.out.below hb)
    replace UM := Lib.hid (UM.out.below hb)
    replace PX := Lib.hid (PX.out.below hb)
    replace PS := Lib.hid (PS.out.below hb)
    replace HW := Lib.hid (HW.out.trans (hb.mono HW.out.size))
    have Nx9 := Lib.hid (hx)
    clear hb
    clear hx
    go_wp2_with fail
    refine (own_an UM.out).mono ?_
    rintro e wn ⟨x10, rfl, hx, hb⟩
    replace UA := Lib.hid (UA.out.below hb)
    replace UE := Lib.hid (UE.out.below hb)
    replace UF := Lib.hid (UF.out.below hb)
    replace UM := Lib.hid (UM.out.below hb)
    replace PX := Lib.hid (PX.out.below hb)
    replace PS := Lib.hid (PS.out.below hb)
    replace Nx9 := Lib.hid (Nx9.out.below hb)
    replace HW := Lib.hid (HW.out.trans (hb.mono HW.out.size))
    have Nx10 := Lib.hid (hx)
    clear hb
    clear hx
    go_wp2_with fail
    refine (ES.out _ _ _ _ Nx9.out PS.out.nn Nx10.out).mono ?_
    rintro e wn ⟨x11, rfl, hx, -, hb⟩
    replace hx := hx rfl
    replace UA := Lib.hid (UA.out.below hb)
    replace UE := Lib.hid (UE.out.below hb)
    replace UF := Lib.hid (UF.out.below hb)
    replace UM := Lib.hid (UM.out.below hb)
    replace PX := Lib.hid (PX.out.below hb)
    replace HW := Lib.hid (HW.out.trans (hb.mono HW.out.size))
    have PW := Lib.hid (hx)
    clear hb Nx9 PS Nx10
    clear hx
    go_wp2_with fail
    refine (own_an UA.out).mono ?_
    rintro e wn ⟨x12, rfl, hx, hb⟩
    replace UA := Lib.hid (UA.out.below hb)
    replace UE := Lib.hid (UE.out.below hb)
    replace UF := Lib.hid (UF.out.below hb)
    replace UM := Lib.hid (UM.out.below hb)
    replace PX := Lib.hid (PX.out.below hb)
    replace PW := Lib.hid (PW.out.below hb)
    replace HW := Lib.hid (HW.out.trans (hb.mono HW.out.size))
    have Nx12 := Lib.hid (hx)
    clear hb
    clear hx
    go_wp2_with fail
    refine (own_an UF.out).mono ?_
    rintro e wn ⟨x13, rfl, hx, hb⟩
    replace UA := Lib.hid (UA.out.below hb)
    replace UE := Lib.hid (UE.out.below hb)
    replace UF := Lib.hid (UF.out.below hb)
    replace UM := Lib.hid (UM.out.below hb)
    replace PX := Lib.hid (PX.out.below hb)
    replace PW := Lib.hid (PW.out.below hb)
    replace Nx12 := Lib.hid (Nx12.out.below hb)
    replace HW := Lib.hid (HW.out.trans (hb.mono HW.out.size))
    have Nx13 := Lib.hid (hx)
    clear hb
    clear hx
    go_wp2_with fail
    refine (own_an UM.out).mono ?_
    rintro e wn ⟨x14, rfl, hx, hb⟩
    replace UA := Lib.hid (UA.out.below hb)
    replace UE := Lib.hid (UE.out.below hb)
    replace UF := Lib.hid (UF.out.below hb)
    replace UM := Lib.hid (UM.out.below hb)
    replace PX := Lib.hid (PX.out.below hb)
    replace PW := Lib.hid (PW.out.below hb)
    replace Nx12 := Lib.hid (Nx12.out.below hb)
    replace Nx13 := Lib.hid (Nx13.out.below hb)
    replace HW := Lib.hid (HW.out.trans (hb.mono HW.out.size))
    have Nx14 := Lib.hid (hx)
    clear hb
    clear hx
    go_wp2_with fail
    refine (EF.out _ _ _ _ Nx12.out Nx13.out Nx14.out).mono ?_
    rintro e wn ⟨x15, rfl, hx, -, hb⟩
    replace hx := hx rfl
    replace UA := Lib.hid (UA.out.below hb)
    replace UE := Lib.hid (UE.out.below hb)
    replace UF := Lib.hid (UF.out.below hb)
    replace UM := Lib.hid (UM.out.below hb)
    replace PX := Lib.hid (PX.out.below hb)
    replace PW := Lib.hid (PW.out.below hb)
    replace HW := Lib.hid (HW.out.trans (hb.mono HW.out.size))
    have PZ := Lib.hid (hx)
    clear hb Nx12 Nx13 Nx14
    clear hx
    go_wp2_with fail
    refine (MU.out _ _ _ PX.out.nn PZ.out.nn).mono ?_
    rintro e wn ⟨x16, rfl, hx, -, hb⟩
    replace hx := hx rfl
    replace UA := Lib.hid (UA.out.below hb)
    replace UE := Lib.hid (UE.out.below hb)
    replace UF := Lib.hid (UF.out.below hb)
    replace UM := Lib.hid (UM.out.below hb)
    replace PW := Lib.hid (PW.out.below hb)
    replace HW := Lib.hid (HW.out.trans (hb.mono HW.out.size))
    have PQ := Lib.hid (hx)
    clear hb PX PZ
    clear hx
    go_wp2_with fail
    refine (own_an UM.out).mono ?_
    rintro e wn ⟨x17, rfl, hx, hb⟩
    replace UA := Lib.hid (UA.out.below hb)
    replace UE := Lib.hid (UE.out.below hb)
    replace UF := Lib.hid (UF.out.below hb)
    replace UM := Lib.hid (UM.out.below hb)
    replace PW := Lib.hid (PW.out.below hb)
    replace PQ := Lib.hid (PQ.out.below hb)
    replace HW := Lib.hid (HW.out.trans (hb.mono HW.out.size))
    have Nx17 := Lib.hid (hx)
    clear hb
    clear hx
    go_wp2_with fail
    refine (DM.out _ _ _ PQ.out.nn Nx17.out).mono ?_
    rintro e wn ⟨x18, x19, rfl, hx, -, hb⟩
    replace hx := (hx rfl).2
    replace UA := Lib.hid (UA.out.below hb)
    replace UE := Lib.hid (UE.out.below hb)
    replace UF := Lib.hid (UF.out.below hb)
    replace UM := Lib.hid (UM.out.below hb)
    replace PW := Lib.hid (PW.out.below hb)
    replace HW := Lib.hid (HW.out.trans (hb.mono HW.out.size))
    have PR := Lib.hid (hx)
    clear hb PQ Nx17
    clear hx
    go_wp2_with fail
    refine (same_nn PW.out PR.out).mono ?_
    rintro e wn ⟨rfl, hb⟩
    replace UA := Lib.hid (UA.out.below hb)
    replace UE := Lib.hid (UE.out.below hb)
    replace UF := Lib.hid (UF.out.below hb)
    replace UM := Lib.hid (UM.out.below hb)
    replace HW := Lib.hid (HW.out.trans (hb.mono HW.out.size))
    clear hb PW PR
    go_wp2_with fail
    refine (lives_any _).mono ?_
    rintro e wn ⟨rfl, hb⟩
    replace UA := Lib.hid (UA.out.below hb)
    replace UE := Lib.hid (UE.out.below hb)
    replace UF := Lib.hid (UF.out.below hb)
    replace UM := Lib.hid (UM.out.below hb)
    replace HW := Lib.hid (HW.out.trans (hb.mono HW.out.size))
    clear hb
    go_wp2
    go_ret
    exact ⟨rfl, HW.out⟩
end Go.Proofs.Ytgegkffigjogcaa

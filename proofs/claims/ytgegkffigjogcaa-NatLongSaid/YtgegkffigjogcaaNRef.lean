/- The reference's Check, both, told; its sums, products, quotients and comparisons. -/
import Derived.Test.YtgegkffigjogcaaNOf
import Derived.Test.YtgegkffigjogcaaRDiv
import Derived.Test.YtgegkffigjogcaaNDivMod
namespace Go.Proofs.Ytgegkffigjogcaa
open Go.RowKit

theorem lim_pow : ∃ k : Nat, k = 1024 ∧ LIM = 4294967296 ^ k := ⟨1024, rfl, by unfold LIM; rfl⟩
theorem rp_lim {n : Nat} {f : Nat → Nat} (hf : ∀ j, j < n → f j < 4294967296) (ht : n = 0 ∨ f (n - 1) ≠ 0) : 1024 < n ↔ LIM ≤ vb 4294967296 f n := by
  obtain ⟨k, hk, e⟩ := lim_pow
  have h := plain_len (P := 4294967296) (m := k) (by omega) hf ht
  rw [e]
  constructor
  · intro h1
    exact Nat.le_of_not_lt (fun h2 => by have := h.1 h2; omega)
  · intro h1
    exact Nat.lt_of_not_le (fun h2 => absurd (h.2 (by omega)) (Nat.not_lt.2 h1))
theorem cd_zero {V : Nat} (h : cdN V = 0) : V < LIM := by
  unfold cdN at h
  by_cases e : LIM ≤ V
  · rw [if_pos e] at h; omega
  · exact Nat.lt_of_not_le e
theorem cd2_zero {A B : Nat} (h : cd2 A B = 0) : A < LIM ∧ B < LIM := by
  unfold cd2 at h
  by_cases e : cdN A = 0
  · rw [if_pos e] at h; exact ⟨cd_zero e, cd_zero h⟩
  · rw [if_neg e] at h; exact absurd h e
theorem cdN_bd (V : Nat) : cdN V ≤ 2 := by unfold cdN; split <;> omega
set_option maxRecDepth 100000 in
set_option maxHeartbeats 1000000 in
theorem check_an {V : Nat} {v : Value} {w : World} (h : AN V v w) : Calls Try.prog 23 #[v] w fun e w' => e = .returned (.int .i64 ((cdN V : Nat) : Int)) ∧ Below w.heap.size w w' := by
  have HP := Lib.hid (plain_an h)
  clear h
  go_enter Try.func23, Try.ntmps23
  go_wp2_with fail
  refine HP.out.mono ?_
  rintro e w1 ⟨u, rfl, ⟨g, n, cap, f, rfl, hn, hv, ht⟩, hb⟩
  have hl := rp_lim hn.lt ht
  rw [hv] at hl
  have HB := Lib.hid hb
  by_cases h1 : 1024 < n
  · have h2 : (1024 : Int) < n := by omega
    have HE : Hid (cdN V = 2) := Lib.hid (by unfold cdN; rw [if_pos (hl.1 h1)])
    clear hl hv ht hn hb h1
    go_wp2
    go_ret
    exact ⟨by rw [HE.out]; rfl, HB.out⟩
  · have h2 : ¬ (1024 : Int) < n := by omega
    have HE : Hid (cdN V = 0) := Lib.hid (by unfold cdN; rw [if_neg (fun h => h1 (hl.2 h))])
    clear hl hv ht hn hb h1
    go_wp2
    go_ret
    exact ⟨by rw [HE.out]; rfl, HB.out⟩
set_option maxRecDepth 100000 in
set_option maxHeartbeats 1000000 in
theorem both_an {A B : Nat} {u v : Value} {w : World} (hA : AN A u w) (hB : AN B v w) : Calls Try.prog 44 #[u, v] w fun e w' => e = .returned (.int .i64 ((cd2 A B : Nat) : Int)) ∧ Below w.heap.size w w' := by
  have H1 := Lib.hid (check_an hA)
  have H2 := Lib.hid (fun w' (h : AN B v w') => check_an h)
  have HB := Lib.hid hB
  unfold cd2
  obtain ⟨a, ea⟩ : ∃ a, cdN A = a := ⟨_, rfl⟩
  obtain ⟨b, eb⟩ : ∃ b, cdN B = b := ⟨_, rfl⟩
  rw [ea] at H1 ⊢
  rw [eb] at H2 ⊢
  clear ea eb hA hB
  by_cases h0 : a = 0
  · rw [if_pos h0]
    have e0 : ((a : Int) != 0) = false := by simp [h0]
    clear h0
    go_enter Try.func44, Try.ntmps44
    go_wp2_with fail
    refine H1.out.mono ?_
    rintro e w1 ⟨rfl, hb⟩
    have HW := Lib.hid hb
    replace HB := Lib.hid (HB.out.below hb)
    clear hb
    go_wp2_with fail
    refine (H2.out _ HB.out).mono ?_
    rintro e w2 ⟨rfl, hb⟩
    replace HW := Lib.hid (HW.out.trans (hb.mono HW.out.size))
    clear hb
    go_wp2
    go_ret
    exact ⟨rfl, HW.out⟩
  · rw [if_neg h0]
    have e0 : ((a : Int) != 0) = true := by simp [h0]
    clear h0
    go_enter Try.func44, Try.ntmps44
    go_wp2_with fail
    refine H1.out.mono ?_
    rintro e w1 ⟨rfl, hb⟩
    have HW := Lib.hid hb
    clear hb
    go_wp2
    go_ret
    exact ⟨rfl, HW.out⟩
/-- What a call of the reference leaves that tells a number, or that it can't. -/
def AnsR (c V : Nat) (w : World) (e : Ending) (w' : World) : Prop := ∃ v, e = .returned (.tuple #[v, .int .i64 (c : Nat)]) ∧ (c = 0 → RP V v w') ∧ (c ≠ 0 → v = .slice none 0 0) ∧ Below w.heap.size w w'
def AnsR3 (c Q R : Nat) (w : World) (e : Ending) (w' : World) : Prop := ∃ u v, e = .returned (.tuple #[u, v, .int .i64 (c : Nat)]) ∧ (c = 0 → RP Q u w' ∧ RP R v w') ∧ (c ≠ 0 → u = .slice none 0 0 ∧ v = .slice none 0 0) ∧ Below w.heap.size w w'
set_option maxRecDepth 100000 in
set_option maxHeartbeats 1000000 in
theorem told_dd {N V : Nat} {v : Value} {w : World} (hN : N ≤ 100000) (h : DD N V v w) : Calls Try.prog 45 #[v] w (AnsR (cdN V) V w) := by
  have HO := Lib.hid (of_dd hN h)
  have HC := Lib.hid (fun u w' (h : AN V u w') => check_an h)
  obtain ⟨c, hc⟩ : ∃ c, cdN V = c := ⟨_, rfl⟩
  rw [hc] at HC ⊢
  clear hc h hN
  by_cases h0 : c = 0
  · have e0 : ((c : Int) != 0) = false := by simp [h0]
    have H0 := Lib.hid h0; clear h0
    go_enter Try.func45, Try.ntmps45
    go_wp2_with fail
    refine HO.out.mono ?_
    rintro e w1 ⟨u, rfl, hu, hb⟩
    have HW := Lib.hid hb
    have HU := Lib.hid hu
    clear hb hu
    go_wp2_with fail
    refine (HC.out _ _ HU.out.an).mono ?_
    rintro e w2 ⟨rfl, hb⟩
    replace HU := Lib.hid (HU.out.below hb)
    replace HW := Lib.hid (HW.out.trans (hb.mono HW.out.size))
    clear hb
    go_wp2
    go_ret2
    exact ⟨u, by rw [H0.out]; rfl, fun _ => HU.out, fun h => absurd H0.out h, HW.out⟩
  · have e0 : ((c : Int) != 0) = true := by simp [h0]
    have H0 := Lib.hid h0; clear h0
    go_enter Try.func45, Try.ntmps45
    go_wp2_with fail
    refine HO.out.mono ?_
    rintro e w1 ⟨u, rfl, hu, hb⟩
    have HW := Lib.hid hb
    have HU := Lib.hid hu
    clear hb hu
    go_wp2_with fail
    refine (HC.out _ _ HU.out.an).mono ?_
    rintro e w2 ⟨rfl, hb⟩
    replace HW := Lib.hid (HW.out.trans (hb.mono HW.out.size))
    clear hb
    go_wp2
    go_ret2
    exact ⟨_, rfl, fun h => absurd h H0.out, fun _ => rfl, HW.out⟩
theorem mk_dd {n V : Nat} {w : World} {e : Ending} {w' : World} (h : MkDg n V w e w') : ∃ u, e = .returned u ∧ DD n V u w' ∧ Below w.heap.size w w' := by
  obtain ⟨b, cap, d, rfl, -, h2, h3, h4, h5⟩ := h
  exact ⟨_, rfl, ⟨b, n, cap, d, Nat.le_refl _, rfl, h2, h3, h4⟩, h5⟩
theorem DD.up {N M V : Nat} {v : Value} {w : World} (h : DD N V v w) (hm : N ≤ M) : DD M V v w := by
  obtain ⟨b, n, cap, d, h1, h2⟩ := h; exact ⟨b, n, cap, d, Nat.le_trans h1 hm, h2⟩
theorem sum_dd {N M A B : Nat} {u v : Value} {w : World} (hN : N ≤ 100000) (hM : M ≤ 100000) (hA : DD N A u w) (hB : DD M B v w) : Calls Try.prog 46 #[u, v] w fun e w' => ∃ x, e = .returned x ∧ DD (max N M + 1) (A + B) x w' ∧ Below w.heap.size w w' := by
  obtain ⟨b, n, cap, d, h1, rfl, h2, h3, rfl⟩ := hA
  obtain ⟨b', n', cap', d', h1', rfl, h2', h3', rfl⟩ := hB
  refine (sum_any b cap b' cap' n n' d d' (by omega) (by omega) h3 h3' w h2 h2').mono fun e w' h => ?_
  obtain ⟨x, q1, q2, q3⟩ := mk_dd h
  exact ⟨x, q1, q2.up (by omega), q3⟩
theorem product_dd {N M A B : Nat} {u v : Value} {w : World} (hN : N ≤ 100000) (hM : M ≤ 100000) (hA : DD N A u w) (hB : DD M B v w) : Calls Try.prog 50 #[u, v] w fun e w' => ∃ x, e = .returned x ∧ DD (N + M) (A * B) x w' ∧ Below w.heap.size w w' := by
  obtain ⟨b, n, cap, d, h1, rfl, h2, h3, rfl⟩ := hA
  obtain ⟨b', n', cap', d', h1', rfl, h2', h3', rfl⟩ := hB
  refine (product_digits b cap b' cap' n n' d d' (by omega) (by omega) h3 h3' w h2 h2').mono fun e w' h => ?_
  obtain ⟨x, q1, q2, q3⟩ := mk_dd h
  exact ⟨x, q1, q2.up (by omega), q3⟩
theorem less_dd {N M A B : Nat} {u v : Value} {w : World} (hN : N ≤ 100000) (hM : M ≤ 100000) (hA : DD N A u w) (hB : DD M B v w) : Calls Try.prog 64 #[u, v] w fun e w' => e = .returned (.bool (decide (A < B))) ∧ w = w' := by
  obtain ⟨b, n, cap, d, h1, rfl, h2, h3, rfl⟩ := hA
  obtain ⟨b', n', cap', d', h1', rfl, h2', h3', rfl⟩ := hB
  exact less_any b cap b' cap' n n' d d' (by omega) (by omega) h3 h3' w h2 h2'
theorem divide_dd {N M A B : Nat} {u v : Value} {w : World} (hN : N ≤ 1000) (hM : M ≤ 1000) (h0 : 0 < B) (hA : DD N A u w) (hB : DD M B v w) : Calls Try.prog 70 #[u, v] w fun e w' => ∃ x y, e = .returned (.tuple #[x, y]) ∧ DD N (A / B) x w' ∧ DD (M + 1) (A % B) y w' ∧ Below w.heap.size w w' := by
  obtain ⟨b, n, cap, d, h1, rfl, h2, h3, rfl⟩ := hA
  obtain ⟨b', n', cap', d', h1', rfl, h2', h3', rfl⟩ := hB
  refine (divide_ref b cap b' cap' n n' d d' (by omega) (by omega) h3 h3' h0 w h2 h2').mono fun e w' h => ?_
  obtain ⟨Q, g, nr, c, q, dr, rfl, q1, q2, q3, q4, q5, q6, q7, q8⟩ := h
  exact ⟨_, _, rfl, ⟨Q, n, n, q, h1, rfl, q1, q4, q6⟩, ⟨g, nr, c, dr, by omega, rfl, q2, q5, q7⟩, q8⟩
set_option maxRecDepth 100000 in
set_option maxHeartbeats 1000000 in
theorem radd_an {A B : Nat} {u v : Value} {w : World} (hA : AN A u w) (hB : AN B v w) : Calls Try.prog 14 #[u, v] w (AnsR (cdAdd A B) (A + B) w) := by
  have HB := Lib.hid (both_an hA hB)
  have UA := Lib.hid hA
  have UB := Lib.hid hB
  obtain ⟨K, hK, eL⟩ := lim_pow
  unfold cdAdd
  obtain ⟨c, hc⟩ : ∃ c, cd2 A B = c := ⟨_, rfl⟩
  rw [hc] at HB ⊢
  by_cases h0 : c = 0
  · have hL := cd2_zero (hc.trans h0)
    rw [if_pos h0]
    rw [eL] at hL
    have DA := Lib.hid (fun x w' (hx : RP A x w') => digits_rp (k := K) (by omega) hL.1 hx)
    have DB := Lib.hid (fun x w' (hx : RP B x w') => digits_rp (k := K) (by omega) hL.2 hx)
    have OP := Lib.hid (fun x y w' (hx : DD (2 * K) A x w') (hy : DD (2 * K) B y w') => sum_dd (by omega) (by omega) hx hy)
    have TD := Lib.hid (fun x w' (hx : DD (max (2 * K) (2 * K) + 1) (A + B) x w') => told_dd (by omega) hx)
    have e0 : ((c : Int) != 0) = false := by simp [h0]
    clear hc h0 hA hB hL hK eL
    go_enter Try.func14, Try.ntmps14
    have HW : Hid (Below w.heap.size w w) := Lib.hid (Below.refl _ _)
    go_wp2_with fail
    refine (HB.out).mono ?_
    rintro e wn ⟨rfl, hb⟩
    replace UA := Lib.hid (UA.out.below hb)
    replace UB := Lib.hid (UB.out.below hb)
    replace HW := Lib.hid (HW.out.trans (hb.mono HW.out.size))
    clear hb
    go_wp2_with fail
    refine (plain_an UA.out).mono ?_
    rintro e wn ⟨x1, rfl, hx, hb⟩
    replace UA := Lib.hid (UA.out.below hb)
    replace UB := Lib.hid (UB.out.below hb)
    replace HW := Lib.hid (HW.out.trans (hb.mono HW.out.size))
    have P1 := Lib.hid (hx)
    clear hb
    clear hx
    go_wp2_with fail
    refine (DA.out _ _ P1.out).mono ?_
    rintro e wn ⟨x2, rfl, hx, hb⟩
    replace UA := Lib.hid (UA.out.below hb)
    replace UB := Lib.hid (UB.out.below hb)
    replace HW := Lib.hid (HW.out.trans (hb.mono HW.out.size))
    have D2 := Lib.hid (hx)
    clear hb P1
    clear hx
    go_wp2_with fail
    refine (plain_an UB.out).mono ?_
    rintro e wn ⟨x3, rfl, hx, hb⟩
    replace UA := Lib.hid (UA.out.below hb)
    replace UB := Lib.hid (UB.out.below hb)
    replace D2 := Lib.hid (D2.out.below hb)
    replace HW := Lib.hid (HW.out.trans (hb.mono HW.out.size))
    have P3 := Lib.hid (hx)
    clear hb
    clear hx
    go_wp2_with fail
    refine (DB.out _ _ P3.out).mono ?_
    rintro e wn ⟨x4, rfl, hx, hb⟩
    replace UA := Lib.hid (UA.out.below hb)
    replace UB := Lib.hid (UB.out.below hb)
    replace D2 := Lib.hid (D2.out.below hb)
    replace HW := Lib.hid (HW.out.trans (hb.mono HW.out.size))
    have D4 := Lib.hid (hx)
    clear hb P3
    clear hx
    go_wp2_with fail
    refine (OP.out _ _ _ D2.out D4.out).mono ?_
    rintro e wn ⟨x5, rfl, hx, hb⟩
    replace UA := Lib.hid (UA.out.below hb)
    replace UB := Lib.hid (UB.out.below hb)
    replace HW := Lib.hid (HW.out.trans (hb.mono HW.out.size))
    have D5 := Lib.hid (hx)
    clear hb D2 D4
    clear hx
    go_wp2_with fail
    refine (TD.out _ _ D5.out).mono ?_
    rintro e wn ⟨x6, rfl, hx, hy, hb⟩
    have HF := Lib.hid (And.intro hx (And.intro hy (HW.out.trans (hb.mono HW.out.size))))
    clear hx hy hb
    go_wp2
    go_ret2
    exact ⟨x6, rfl, HF.out.1, HF.out.2.1, HF.out.2.2⟩
  · rw [if_neg h0]
    have e0 : ((c : Int) != 0) = true := by simp [h0]
    have H0 := Lib.hid h0
    clear hc h0 hA hB hK eL
    go_enter Try.func14, Try.ntmps14
    go_wp2_with fail
    refine HB.out.mono ?_
    rintro e wn ⟨rfl, hb⟩
    have HW := Lib.hid hb
    clear hb
    go_wp2
    go_ret2
    exact ⟨_, rfl, fun h => absurd h H0.out, fun _ => rfl, HW.out⟩
set_option maxRecDepth 100000 in
set_option maxHeartbeats 1000000 in
theorem rmul_an {A B : Nat} {u v : Value} {w : World} (hA : AN A u w) (hB : AN B v w) : Calls Try.prog 20 #[u, v] w (AnsR (cdMul A B) (A * B) w) := by
  have HB := Lib.hid (both_an hA hB)
  have UA := Lib.hid hA
  have UB := Lib.hid hB
  obtain ⟨K, hK, eL⟩ := lim_pow
  unfold cdMul
  obtain ⟨c, hc⟩ : ∃ c, cd2 A B = c := ⟨_, rfl⟩
  rw [hc] at HB ⊢
  by_cases h0 : c = 0
  · have hL := cd2_zero (hc.trans h0)
    rw [if_pos h0]
    rw [eL] at hL
    have DA := Lib.hid (fun x w' (hx : RP A x w') => digits_rp (k := K) (by omega) hL.1 hx)
    have DB := Lib.hid (fun x w' (hx : RP B x w') => digits_rp (k := K) (by omega) hL.2 hx)
    have OP := Lib.hid (fun x y w' (hx : DD (2 * K) A x w') (hy : DD (2 * K) B y w') => product_dd (by omega) (by omega) hx hy)
    have TD := Lib.hid (fun x w' (hx : DD (2 * K + 2 * K) (A * B) x w') => told_dd (by omega) hx)
    have e0 : ((c : Int) != 0) = false := by simp [h0]
    clear hc h0 hA hB hL hK eL
    go_enter Try.func20, Try.ntmps20
    have HW : Hid (Below w.heap.size w w) := Lib.hid (Below.refl _ _)
    go_wp2_with fail
    refine (HB.out).mono ?_
    rintro e wn ⟨rfl, hb⟩
    replace UA := Lib.hid (UA.out.below hb)
    replace UB := Lib.hid (UB.out.below hb)
    replace HW := Lib.hid (HW.out.trans (hb.mono HW.out.size))
    clear hb
    go_wp2_with fail
    refine (plain_an UA.out).mono ?_
    rintro e wn ⟨x1, rfl, hx, hb⟩
    replace UA := Lib.hid (UA.out.below hb)
    replace UB := Lib.hid (UB.out.below hb)
    replace HW := Lib.hid (HW.out.trans (hb.mono HW.out.size))
    have P1 := Lib.hid (hx)
    clear hb
    clear hx
    go_wp2_with fail
    refine (DA.out _ _ P1.out).mono ?_
    rintro e wn ⟨x2, rfl, hx, hb⟩
    replace UA := Lib.hid (UA.out.below hb)
    replace UB := Lib.hid (UB.out.below hb)
    replace HW := Lib.hid (HW.out.trans (hb.mono HW.out.size))
    have D2 := Lib.hid (hx)
    clear hb P1
    clear hx
    go_wp2_with fail
    refine (plain_an UB.out).mono ?_
    rintro e wn ⟨x3, rfl, hx, hb⟩
    replace UA := Lib.hid (UA.out.below hb)
    replace UB := Lib.hid (UB.out.below hb)
    replace D2 := Lib.hid (D2.out.below hb)
    replace HW := Lib.hid (HW.out.trans (hb.mono HW.out.size))
    have P3 := Lib.hid (hx)
    clear hb
    clear hx
    go_wp2_with fail
    refine (DB.out _ _ P3.out).mono ?_
    rintro e wn ⟨x4, rfl, hx, hb⟩
    replace UA := Lib.hid (UA.out.below hb)
    replace UB := Lib.hid (UB.out.below hb)
    replace D2 := Lib.hid (D2.out.below hb)
    replace HW := Lib.hid (HW.out.trans (hb.mono HW.out.size))
    have D4 := Lib.hid (hx)
    clear hb P3
    clear hx
    go_wp2_with fail
    refine (OP.out _ _ _ D2.out D4.out).mono ?_
    rintro e wn ⟨x5, rfl, hx, hb⟩
    replace UA := Lib.hid (UA.out.below hb)
    replace UB := Lib.hid (UB.out.below hb)
    replace HW := Lib.hid (HW.out.trans (hb.mono HW.out.size))
    have D5 := Lib.hid (hx)
    clear hb D2 D4
    clear hx
    go_wp2_with fail
    refine (TD.out _ _ D5.out).mono ?_
    rintro e wn ⟨x6, rfl, hx, hy, hb⟩
    have HF := Lib.hid (And.intro hx (And.intro hy (HW.out.trans (hb.mono HW.out.size))))
    clear hx hy hb
    go_wp2
    go_ret2
    exact ⟨x6, rfl, HF.out.1, HF.out.2.1, HF.out.2.2⟩
  · rw [if_neg h0]
    have e0 : ((c : Int) != 0) = true := by simp [h0]
    have H0 := Lib.hid h0
    clear hc h0 hA hB hK eL
    go_enter Try.func20, Try.ntmps20
    go_wp2_with fail
    refine HB.out.mono ?_
    rintro e wn ⟨rfl, hb⟩
    have HW := Lib.hid hb
    clear hb
    go_wp2
    go_ret2
    exact ⟨_, rfl, fun h => absurd h H0.out, fun _ => rfl, HW.out⟩
set_option maxRecDepth 100000 in
set_option maxHeartbeats 1000000 in
theorem rdivide_an {A B K : Nat} {u v : Value} {w : World} (hK : K ≤ 400) (kA : A < 4294967296 ^ K) (kB : B < 4294967296 ^ K) (h0 : 0 < B) (hA : AN A u w) (hB : AN B v w) : Calls Try.prog 55 #[u, v] w fun e w' => ∃ x y, e = .returned (.tuple #[x, y]) ∧ RP (A / B) x w' ∧ RP (A % B) y w' ∧ Below w.heap.size w w' := by
  have UA := Lib.hid hA
  have UB := Lib.hid hB
  have DA := Lib.hid (fun x w' (hx : RP A x w') => digits_rp (k := K) (by omega) kA hx)
  have DB := Lib.hid (fun x w' (hx : RP B x w') => digits_rp (k := K) (by omega) kB hx)
  have OP := Lib.hid (fun x y w' (hx : DD (2 * K) A x w') (hy : DD (2 * K) B y w') => divide_dd (by omega) (by omega) h0 hx hy)
  have OQ := Lib.hid (fun x w' (hx : DD (2 * K) (A / B) x w') => of_dd (by omega) hx)
  have OM := Lib.hid (fun x w' (hx : DD (2 * K + 1) (A % B) x w') => of_dd (by omega) hx)
  clear hA hB hK kA kB h0
  go_enter Try.func55, Try.ntmps55
  have HW : Hid (Below w.heap.size w w) := Lib.hid (Below.refl _ _)
  go_wp2_with fail
  refine (plain_an UA.out).mono ?_
  rintro e wn ⟨x1, rfl, hx, hb⟩
  replace UA := Lib.hid (UA.out.below hb)
  replace UB := Lib.hid (UB.out.below hb)
  replace HW := Lib.hid (HW.out.trans (hb.mono HW.out.size))
  have P1 := Lib.hid (hx)
  clear hb
  clear hx
  go_wp2_with fail
  refine (DA.out _ _ P1.out).mono ?_
  rintro e wn ⟨x2, rfl, hx, hb⟩
  replace UA := Lib.hid (UA.out.below hb)
  replace UB := Lib.hid (UB.out.below hb)
  replace HW := Lib.hid (HW.out.trans (hb.mono HW.out.size))
  have D2 := Lib.hid (hx)
  clear hb P1
  clear hx
  go_wp2_with fail
  refine (plain_an UB.out).mono ?_
  rintro e wn ⟨x3, rfl, hx, hb⟩
  replace UA := Lib.hid (UA.out.below hb)
  replace UB := Lib.hid (UB.out.below hb)
  replace D2 := Lib.hid (D2.out.below hb)
  replace HW := Lib.hid (HW.out.trans (hb.mono HW.out.size))
  have P3 := Lib.hid (hx)
  clear hb
  clear hx
  go_wp2_with fail
  refine (DB.out _ _ P3.out).mono ?_
  rintro e wn ⟨x4, rfl, hx, hb⟩
  replace UA := Lib.hid (UA.out.below hb)
  replace UB := Lib.hid (UB.out.below hb)
  replace D2 := Lib.hid (D2.out.below hb)
  replace HW := Lib.hid (HW.out.trans (hb.mono HW.out.size))
  have D4 := Lib.hid (hx)
  clear hb P3
  clear hx
  go_wp2_with fail
  refine (OP.out _ _ _ D2.out D4.out).mono ?_
  rintro e wn ⟨x5, x6, rfl, hx, hy, hb⟩
  replace UA := Lib.hid (UA.out.below hb)
  replace UB := Lib.hid (UB.out.below hb)
  replace HW := Lib.hid (HW.out.trans (hb.mono HW.out.size))
  have D5 := Lib.hid (hx)
  have D6 := Lib.hid (hy)
  clear hb D2 D4
  clear hx hy
  go_wp2_with fail
  refine (OQ.out _ _ D5.out).mono ?_
  rintro e wn ⟨x7, rfl, hx, hb⟩
  replace UA := Lib.hid (UA.out.below hb)
  replace UB := Lib.hid (UB.out.below hb)
  replace D6 := Lib.hid (D6.out.below hb)
  replace HW := Lib.hid (HW.out.trans (hb.mono HW.out.size))
  have P7 := Lib.hid (hx)
  clear hb D5
  clear hx
  go_wp2_with fail
  refine (OM.out _ _ D6.out).mono ?_
  rintro e wn ⟨x8, rfl, hx, hb⟩
  replace UA := Lib.hid (UA.out.below hb)
  replace UB := Lib.hid (UB.out.below hb)
  replace P7 := Lib.hid (P7.out.below hb)
  replace HW := Lib.hid (HW.out.trans (hb.mono HW.out.size))
  have P8 := Lib.hid (hx)
  clear hb D6
  clear hx
  go_wp2
  go_ret2
  exact ⟨x7, x8, rfl, P7.out, P8.out, HW.out⟩
set_option maxRecDepth 100000 in
set_option maxHeartbeats 1000000 in
theorem rdivmod_an {A B K : Nat} {u v : Value} {w : World} (hK : K ≤ 400) (kA : A < 4294967296 ^ K) (kB : B < 4294967296 ^ K) (hA : AN A u w) (hB : AN B v w) : Calls Try.prog 29 #[u, v] w (AnsR3 (cdD A B) (A / B) (A % B) w) := by
  have HB := Lib.hid (both_an hA hB)
  have UA := Lib.hid hA
  have UB := Lib.hid hB
  unfold cdD
  obtain ⟨c, hc⟩ : ∃ c, cd2 A B = c := ⟨_, rfl⟩
  rw [hc] at HB ⊢
  by_cases h0 : c = 0
  · rw [if_pos h0]
    have e0 : ((c : Int) != 0) = false := by simp [h0]
    clear hc h0 hA hB
    by_cases hb0 : B = 0
    · rw [if_pos hb0]
      clear hK kA kB
      go_enter Try.func29, Try.ntmps29
      have HW : Hid (Below w.heap.size w w) := Lib.hid (Below.refl _ _)
      go_wp2_with fail
      refine (HB.out).mono ?_
      rintro e wn ⟨rfl, hb⟩
      replace UA := Lib.hid (UA.out.below hb)
      replace UB := Lib.hid (UB.out.below hb)
      replace HW := Lib.hid (HW.out.trans (hb.mono HW.out.size))
      clear hb
      go_wp2_with fail
      refine (plain_an UB.out).mono ?_
      rintro e wn ⟨x1, rfl, hx, hb⟩
      replace UA := Lib.hid (UA.out.below hb)
      replace UB := Lib.hid (UB.out.below hb)
      replace HW := Lib.hid (HW.out.trans (hb.mono HW.out.size))
      have P1 := Lib.hid (hx)
      clear hb
      clear hx
      obtain ⟨g, n, cap, f, rfl, hn, hv, ht⟩ := P1.out
      have hn0 : n = 0 := Nat.le_zero.1 ((plain_len (P := 4294967296) (m := 0) (by omega) hn.lt ht).1 (by rw [hv, hb0]; exact Nat.pow_pos (by omega)))
      clear P1 hv ht hn hb0
      subst hn0
      go_wp2
      go_ret3
      exact ⟨_, _, rfl, fun h => absurd h (by decide), fun _ => ⟨rfl, rfl⟩, HW.out⟩
    · rw [if_neg hb0]
      have OP := Lib.hid (fun x y w' (hx : AN A x w') (hy : AN B y w') => rdivide_an hK kA kB (by omega) hx hy)
      clear hK kA kB
      go_enter Try.func29, Try.ntmps29
      have HW : Hid (Below w.heap.size w w) := Lib.hid (Below.refl _ _)
      go_wp2_with fail
      refine (HB.out).mono ?_
      rintro e wn ⟨rfl, hb⟩
      replace UA := Lib.hid (UA.out.below hb)
      replace UB := Lib.hid (UB.out.below hb)
      replace HW := Lib.hid (HW.out.trans (hb.mono HW.out.size))
      clear hb
      go_wp2_with fail
      refine (plain_an UB.out).mono ?_
      rintro e wn ⟨x1, rfl, hx, hb⟩
      replace UA := Lib.hid (UA.out.below hb)
      replace UB := Lib.hid (UB.out.below hb)
      replace HW := Lib.hid (HW.out.trans (hb.mono HW.out.size))
      have P1 := Lib.hid (hx)
      clear hb
      clear hx
      obtain ⟨g, n, cap, f, rfl, hn, hv, ht⟩ := P1.out
      have hn0 : n ≠ 0 := fun h => hb0 (by rw [← hv, h]; rfl)
      have hn1 : ((n : Int) == 0) = false := by simp [hn0]
      clear P1 hv ht hn hb0 hn0
      go_wp2_with fail
      refine (OP.out _ _ _ UA.out UB.out).mono ?_
      rintro e wn ⟨x2, x3, rfl, hx, hy, hb⟩
      replace UA := Lib.hid (UA.out.below hb)
      replace UB := Lib.hid (UB.out.below hb)
      replace HW := Lib.hid (HW.out.trans (hb.mono HW.out.size))
      have P2 := Lib.hid (hx)
      have P3 := Lib.hid (hy)
      clear hb
      clear hx hy
      go_wp2
      go_ret3
      exact ⟨x2, x3, rfl, fun _ => ⟨P2.out, P3.out⟩, fun h => absurd rfl h, HW.out⟩
  · rw [if_neg h0]
    have e0 : ((c : Int) != 0) = true := by simp [h0]
    have H0 := Lib.hid h0
    clear hc h0 hA hB hK kA kB
    go_enter Try.func29, Try.ntmps29
    go_wp2_with fail
    refine HB.out.mono ?_
    rintro e wn ⟨rfl, hb⟩
    have HW := Lib.hid hb
    clear hb
    go_wp2
    go_ret3
    exact ⟨_, _, rfl, fun h => absurd h H0.out, fun _ => ⟨rfl, rfl⟩, HW.out⟩
set_option maxRecDepth 100000 in
set_option maxHeartbeats 1000000 in
theorem rcmp_an {A B K : Nat} {u v : Value} {w : World} (hK : K ≤ 10000) (kA : A < 4294967296 ^ K) (kB : B < 4294967296 ^ K) (hA : AN A u w) (hB : AN B v w) : Calls Try.prog 39 #[u, v] w fun e w' => e = .returned (.int .i64 (sgn A B)) ∧ Below w.heap.size w w' := by
  have UA := Lib.hid hA
  have UB := Lib.hid hB
  have DA := Lib.hid (fun x w' (hx : RP A x w') => digits_rp (k := K) (by omega) kA hx)
  have DB := Lib.hid (fun x w' (hx : RP B x w') => digits_rp (k := K) (by omega) kB hx)
  have L1 := Lib.hid (fun x y w' (hx : DD (2 * K) A x w') (hy : DD (2 * K) B y w') => less_dd (by omega) (by omega) hx hy)
  have L2 := Lib.hid (fun x y w' (hx : DD (2 * K) B x w') (hy : DD (2 * K) A y w') => less_dd (by omega) (by omega) hx hy)
  clear hA hB hK kA kB
  unfold sgn
  by_cases h1 : A < B
  · rw [if_pos h1]
    rw [decide_eq_true h1] at L1
    clear h1 L2
    go_enter Try.func39, Try.ntmps39
    have HW : Hid (Below w.heap.size w w) := Lib.hid (Below.refl _ _)
    go_wp2_with fail
    refine (plain_an UA.out).mono ?_
    rintro e wn ⟨x1, rfl, hx, hb⟩
    replace UA := Lib.hid (UA.out.below hb)
    replace UB := Lib.hid (UB.out.below hb)
    replace HW := Lib.hid (HW.out.trans (hb.mono HW.out.size))
    have P1 := Lib.hid (hx)
    clear hb
    clear hx
    go_wp2_with fail
    refine (plain_an UB.out).mono ?_
    rintro e wn ⟨x2, rfl, hx, hb⟩
    replace UA := Lib.hid (UA.out.below hb)
    replace UB := Lib.hid (UB.out.below hb)
    replace P1 := Lib.hid (P1.out.below hb)
    replace HW := Lib.hid (HW.out.trans (hb.mono HW.out.size))
    have P2 := Lib.hid (hx)
    clear hb
    clear hx
    go_wp2_with fail
    refine (DA.out _ _ P1.out).mono ?_
    rintro e wn ⟨x3, rfl, hx, hb⟩
    replace UA := Lib.hid (UA.out.below hb)
    replace UB := Lib.hid (UB.out.below hb)
    replace P1 := Lib.hid (P1.out.below hb)
    replace P2 := Lib.hid (P2.out.below hb)
    replace HW := Lib.hid (HW.out.trans (hb.mono HW.out.size))
    have D3 := Lib.hid (hx)
    clear hb
    clear hx
    go_wp2_with fail
    refine (DB.out _ _ P2.out).mono ?_
    rintro e wn ⟨x4, rfl, hx, hb⟩
    replace UA := Lib.hid (UA.out.below hb)
    replace UB := Lib.hid (UB.out.below hb)
    replace P1 := Lib.hid (P1.out.below hb)
    replace P2 := Lib.hid (P2.out.below hb)
    replace D3 := Lib.hid (D3.out.below hb)
    replace HW := Lib.hid (HW.out.trans (hb.mono HW.out.size))
    have D4 := Lib.hid (hx)
    clear hb
    clear hx
    go_wp2_with fail
    refine (L1.out _ _ _ D3.out D4.out).mono ?_
    rintro e wn ⟨rfl, rfl⟩
    go_wp2
    go_ret
    exact ⟨rfl, HW.out⟩
  · rw [if_neg h1]
    rw [decide_eq_false h1] at L1
    clear h1
    by_cases h2 : B < A
    · rw [if_pos h2]
      rw [decide_eq_true h2] at L2
      clear h2
      go_enter Try.func39, Try.ntmps39
      have HW : Hid (Below w.heap.size w w) := Lib.hid (Below.refl _ _)
      go_wp2_with fail
      refine (plain_an UA.out).mono ?_
      rintro e wn ⟨x1, rfl, hx, hb⟩
      replace UA := Lib.hid (UA.out.below hb)
      replace UB := Lib.hid (UB.out.below hb)
      replace HW := Lib.hid (HW.out.trans (hb.mono HW.out.size))
      have P1 := Lib.hid (hx)
      clear hb
      clear hx
      go_wp2_with fail
      refine (plain_an UB.out).mono ?_
      rintro e wn ⟨x2, rfl, hx, hb⟩
      replace UA := Lib.hid (UA.out.below hb)
      replace UB := Lib.hid (UB.out.below hb)
      replace P1 := Lib.hid (P1.out.below hb)
      replace HW := Lib.hid (HW.out.trans (hb.mono HW.out.size))
      have P2 := Lib.hid (hx)
      clear hb
      clear hx
      go_wp2_with fail
      refine (DA.out _ _ P1.out).mono ?_
      rintro e wn ⟨x3, rfl, hx, hb⟩
      replace UA := Lib.hid (UA.out.below hb)
      replace UB := Lib.hid (UB.out.below hb)
      replace P1 := Lib.hid (P1.out.below hb)
      replace P2 := Lib.hid (P2.out.below hb)
      replace HW := Lib.hid (HW.out.trans (hb.mono HW.out.size))
      have D3 := Lib.hid (hx)
      clear hb
      clear hx
      go_wp2_with fail
      refine (DB.out _ _ P2.out).mono ?_
      rintro e wn ⟨x4, rfl, hx, hb⟩
      replace UA := Lib.hid (UA.out.below hb)
      replace UB := Lib.hid (UB.out.below hb)
      replace P1 := Lib.hid (P1.out.below hb)
      replace P2 := Lib.hid (P2.out.below hb)
      replace D3 := Lib.hid (D3.out.below hb)
      replace HW := Lib.hid (HW.out.trans (hb.mono HW.out.size))
      have D4 := Lib.hid (hx)
      clear hb
      clear hx
      go_wp2_with fail
      refine (L1.out _ _ _ D3.out D4.out).mono ?_
      rintro e wn ⟨rfl, rfl⟩
      go_wp2_with fail
      refine (DB.out _ _ P2.out).mono ?_
      rintro e wn ⟨x5, rfl, hx, hb⟩
      replace UA := Lib.hid (UA.out.below hb)
      replace UB := Lib.hid (UB.out.below hb)
      replace P1 := Lib.hid (P1.out.below hb)
      replace P2 := Lib.hid (P2.out.below hb)
      replace D3 := Lib.hid (D3.out.below hb)
      replace D4 := Lib.hid (D4.out.below hb)
      replace HW := Lib.hid (HW.out.trans (hb.mono HW.out.size))
      have D5 := Lib.hid (hx)
      clear hb
      clear hx
      go_wp2_with fail
      refine (DA.out _ _ P1.out).mono ?_
      rintro e wn ⟨x6, rfl, hx, hb⟩
      replace UA := Lib.hid (UA.out.below hb)
      replace UB := Lib.hid (UB.out.below hb)
      replace P1 := Lib.hid (P1.out.below hb)
      replace P2 := Lib.hid (P2.out.below hb)
      replace D3 := Lib.hid (D3.out.below hb)
      replace D4 := Lib.hid (D4.out.below hb)
      replace D5 := Lib.hid (D5.out.below hb)
      replace HW := Lib.hid (HW.out.trans (hb.mono HW.out.size))
      have D6 := Lib.hid (hx)
      clear hb
      clear hx
      go_wp2_with fail
      refine (L2.out _ _ _ D5.out D6.out).mono ?_
      rintro e wn ⟨rfl, rfl⟩
      go_wp2
      go_ret
      exact ⟨rfl, HW.out⟩
    · rw [if_neg h2]
      rw [decide_eq_false h2] at L2
      clear h2
      go_enter Try.func39, Try.ntmps39
      have HW : Hid (Below w.heap.size w w) := Lib.hid (Below.refl _ _)
      go_wp2_with fail
      refine (plain_an UA.out).mono ?_
      rintro e wn ⟨x1, rfl, hx, hb⟩
      replace UA := Lib.hid (UA.out.below hb)
      replace UB := Lib.hid (UB.out.below hb)
      replace HW := Lib.hid (HW.out.trans (hb.mono HW.out.size))
      have P1 := Lib.hid (hx)
      clear hb
      clear hx
      go_wp2_with fail
      refine (plain_an UB.out).mono ?_
      rintro e wn ⟨x2, rfl, hx, hb⟩
      replace UA := Lib.hid (UA.out.below hb)
      replace UB := Lib.hid (UB.out.below hb)
      replace P1 := Lib.hid (P1.out.below hb)
      replace HW := Lib.hid (HW.out.trans (hb.mono HW.out.size))
      have P2 := Lib.hid (hx)
      clear hb
      clear hx
      go_wp2_with fail
      refine (DA.out _ _ P1.out).mono ?_
      rintro e wn ⟨x3, rfl, hx, hb⟩
      replace UA := Lib.hid (UA.out.below hb)
      replace UB := Lib.hid (UB.out.below hb)
      replace P1 := Lib.hid (P1.out.below hb)
      replace P2 := Lib.hid (P2.out.below hb)
      replace HW := Lib.hid (HW.out.trans (hb.mono HW.out.size))
      have D3 := Lib.hid (hx)
      clear hb
      clear hx
      go_wp2_with fail
      refine (DB.out _ _ P2.out).mono ?_
      rintro e wn ⟨x4, rfl, hx, hb⟩
      replace UA := Lib.hid (UA.out.below hb)
      replace UB := Lib.hid (UB.out.below hb)
      replace P1 := Lib.hid (P1.out.below hb)
      replace P2 := Lib.hid (P2.out.below hb)
      replace D3 := Lib.hid (D3.out.below hb)
      replace HW := Lib.hid (HW.out.trans (hb.mono HW.out.size))
      have D4 := Lib.hid (hx)
      clear hb
      clear hx
      go_wp2_with fail
      refine (L1.out _ _ _ D3.out D4.out).mono ?_
      rintro e wn ⟨rfl, rfl⟩
      go_wp2_with fail
      refine (DB.out _ _ P2.out).mono ?_
      rintro e wn ⟨x5, rfl, hx, hb⟩
      replace UA := Lib.hid (UA.out.below hb)
      replace UB := Lib.hid (UB.out.below hb)
      replace P1 := Lib.hid (P1.out.below hb)
      replace P2 := Lib.hid (P2.out.below hb)
      replace D3 := Lib.hid (D3.out.below hb)
      replace D4 := Lib.hid (D4.out.below hb)
      replace HW := Lib.hid (HW.out.trans (hb.mono HW.out.size))
      have D5 := Lib.hid (hx)
      clear hb
      clear hx
      go_wp2_with fail
      refine (DA.out _ _ P1.out).mono ?_
      rintro e wn ⟨x6, rfl, hx, hb⟩
      replace UA := Lib.hid (UA.out.below hb)
      replace UB := Lib.hid (UB.out.below hb)
      replace P1 := Lib.hid (P1.out.below hb)
      replace P2 := Lib.hid (P2.out.below hb)
      replace D3 := Lib.hid (D3.out.below hb)
      replace D4 := Lib.hid (D4.out.below hb)
      replace D5 := Lib.hid (D5.out.below hb)
      replace HW := Lib.hid (HW.out.trans (hb.mono HW.out.size))
      have D6 := Lib.hid (hx)
      clear hb
      clear hx
      go_wp2_with fail
      refine (L2.out _ _ _ D5.out D6.out).mono ?_
      rintro e wn ⟨rfl, rfl⟩
      go_wp2
      go_ret
      exact ⟨rfl, HW.out⟩
end Go.Proofs.Ytgegkffigjogcaa

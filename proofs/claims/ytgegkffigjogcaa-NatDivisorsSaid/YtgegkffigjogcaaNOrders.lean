/- bailiwicklaw02.NatOrders: whatever the lists and the number: true. -/
import Derived.Test.YtgegkffigjogcaaNZeros
import Derived.Test.YtgegkffigjogcaaNCmp
namespace Go.Proofs.Ytgegkffigjogcaa
open Go.RowKit

theorem cmp_nn {A B : Nat} {u v : Value} {w : World} (hu : NN A u w) (hv : NN B v w) : Calls Try.prog 30 #[u, v] w fun e w' => e = .returned (.int .i64 (sgn A B)) ∧ Below w.heap.size w w' := by
  obtain ⟨a, n, ca, f, rfl, ha, rfl⟩ := hu
  obtain ⟨b, m, cb, g, rfl, hb, rfl⟩ := hv
  exact (cmp_nv ha hb).mono fun e w' ⟨he, d, hd⟩ => ⟨he, by rw [hd]; exact below_drewN (Below.refl _ _) _⟩
theorem len_nn {A : Nat} {u : Value} {w : World} (hu : NN A u w) : Calls Try.prog 26 #[u] w fun e w' => e = .returned (.int .i64 ((blN A : Nat) : Int)) ∧ Below w.heap.size w w' := by
  obtain ⟨a, n, ca, f, rfl, ha, rfl⟩ := hu
  exact (len_nv ha).mono fun e w' ⟨he, hd⟩ => ⟨he, by rw [← hd]; exact Below.refl _ _⟩
theorem plain_nn {A : Nat} {u : Value} {w : World} (hu : NN A u w) : Calls Try.prog 24 #[u] w fun e w' => ∃ v, e = .returned v ∧ PV A v w' ∧ Below w.heap.size w w' := by
  obtain ⟨a, n, ca, f, rfl, ha, rfl⟩ := hu
  exact plain_nv ha
theorem same_nn {V : Nat} {u v : Value} {w : World} (hu : PV V u w) (hv : PV V v w) : Calls Try.prog 17 #[u, v] w fun e w' => e = .returned (.bool true) ∧ Below w.heap.size w w' :=
  (same_any hu hv).mono fun e w' ⟨he, d, hd⟩ => ⟨he, by rw [hd]; exact below_drewN (Below.refl _ _) _⟩
theorem row_nn {w : World} {base g n cap : Nat} {f : Nat → Nat} (h : w.ownsRow base 32 1 (.slice (some ⟨g, 0, none⟩) n cap) n (pl f n)) (hn : (n : Int) ≤ 35184372088832) (hf : ∀ j, j < n → f j < 4294967296) : NN (vb 4294967296 f n) (.slice (some ⟨g, 0, none⟩) n cap) w := by
  rcases Nat.eq_zero_or_pos n with rfl | h0
  · rcases h.2 with ⟨h1, -⟩ | ⟨g2, cap2, cur, h1, -, h2, h3, -⟩
    · cases h1
    · injection h1 with h1 _ h4
      injection h1 with h1
      injection h1 with h1
      subst h1
      exact ⟨_, 0, cap, f, rfl, ⟨Nat.zero_le _, .inl rfl, fun q hq => by cases hq; exact (Array.getElem?_eq_some_iff.1 h2).1, hf, by omega⟩, rfl⟩
  · exact own_nn h h0 hn hf
/-- A list with noughts behind. -/
def znx (f : Nat → Nat) (n : Nat) : Nat → Nat := fun j => if j < n then f j else 0
theorem znx_pl (f : Nat → Nat) (n k : Nat) : pl f n ++ List.replicate k (.int .u32 0) = pl (znx f n) (n + k) := by
  apply List.ext_getElem?
  intro j
  by_cases h : j < n
  · rw [List.getElem?_append_left (by rw [pl_len]; exact h), pl_at _ _ _ h, pl_at _ _ _ (by omega)]
    unfold znx
    rw [if_pos h]
  · rw [List.getElem?_append_right (by rw [pl_len]; omega), pl_len]
    by_cases h2 : j < n + k
    · rw [pl_at _ _ _ h2, List.getElem?_replicate, if_pos (by omega)]
      unfold znx
      rw [if_neg h]
      rfl
    · rw [List.getElem?_replicate, if_neg (by omega), List.getElem?_eq_none (by rw [pl_len]; omega)]
theorem znx_vb (f : Nat → Nat) (n k : Nat) : vb 4294967296 (znx f n) (n + k) = vb 4294967296 f n := by
  rw [vb_split, vb_zero (n := k) (fun j _ => by unfold znx; rw [if_neg (by omega)]), Nat.mul_zero, Nat.add_zero]
  exact vb_congr (fun j hj => by unfold znx; rw [if_pos hj])
theorem znx_lt {f : Nat → Nat} {n : Nat} (h : ∀ j, j < n → f j < 4294967296) : ∀ j, znx f n j < 4294967296 := fun j => by
  unfold znx
  by_cases e : j < n
  · rw [if_pos e]; exact h j e
  · rw [if_neg e]; omega
theorem sgn_neg (A B : Nat) : sgn B A = - sgn A B := by
  unfold sgn
  rcases Nat.lt_trichotomy A B with h | h | h
  · rw [if_neg (by omega), if_pos h, if_pos h]; rfl
  · subst h; rw [if_neg (by omega), if_neg (by omega)]; rfl
  · rw [if_pos h, if_neg (by omega), if_pos h]
theorem sgn_bd (A B : Nat) : -1 ≤ sgn A B ∧ sgn A B ≤ 1 := by
  unfold sgn
  split
  · omega
  · split <;> omega
theorem blN_mono {A B : Nat} (h : A ≤ B) : blN A ≤ blN B := by
  refine blN_le ?_
  by_cases e : B = 0
  · have : A = 0 := by omega
    rw [this]; exact Nat.pow_pos (by omega)
  · have h2 : B < 2 ^ blN B := by
      unfold blN
      rw [if_neg e]
      exact (Nat.log2_lt e).1 (Nat.lt_succ_self _)
    omega
theorem sgn_bl (A B : Nat) : (blN A < blN B → sgn A B < 0) ∧ (blN B < blN A → 0 < sgn A B) := by
  have key : ∀ {A B : Nat}, blN A < blN B → A < B := fun {A B} h => Nat.lt_of_not_le (fun h2 => by have := blN_mono h2; omega)
  constructor
  · intro h
    unfold sgn
    rw [if_pos (key h)]
    omega
  · intro h
    have := key h
    unfold sgn
    rw [if_neg (by omega), if_pos this]
    omega
set_option maxRecDepth 100000 in
set_option maxHeartbeats 4000000 in
theorem orders_any {w : World} {v0 v1 : Value} {n0 n1 : Nat} {f0 f1 : Nat → Nat} (h0 : ArgN w v0 n0 f0) (h1 : ArgN w v1 n1 f1)
    (l0 : ∀ j, j < n0 → f0 j < 4294967296) (l1 : ∀ j, j < n1 → f1 j < 4294967296) (s0 : (n0 : Int) ≤ 35184372088800) (s1 : (n1 : Int) ≤ 35184372088800) (k : Nat) (hk : k < 256) :
    Calls Try.prog 10 #[v0, v1, .int .u8 (k : Nat)] w fun e w' => e = .returned (.bool true) ∧ Below w.heap.size w w' := by
  have OR := Lib.hid (ownr_any h0 (by omega))
  have OW0 := Lib.hid (fun u w' (hu : ArgN w' u n0 f0) => own_any hu (by omega) l0)
  have OW1 := Lib.hid (fun u w' (hu : ArgN w' u n1 f1) => own_any hu (by omega) l1)
  have RP := Lib.hid (fun u w' (hu : ArgN w' u n0 f0) => refplain_any hu (by omega) l0)
  obtain ⟨i0, hi, hz0, hz1, hz2⟩ := info_parts info32
  obtain ⟨j, hj⟩ : ∃ j, k % 9 = j := ⟨_, rfl⟩
  have hj9 : j < 9 := by omega
  have hAP := Lib.hid (fun (w1 : World) (g cap : Nat) (h : w1.ownsRow w.heap.size 32 1 (.slice (some ⟨g, 0, none⟩) n0 cap) n0 (pl f0 n0)) (hb : w.heap.size ≤ w1.heap.size) =>
    run_append_own_zeros (P := Try.prog) (w := w1) w.heap.size 23 3 23 32 i0 (.int .u32 0) 4 .i64 .i64 Try.underlying23 Try.underlying3 hi hz0 hz1 hz2 rfl rfl g n0 cap (pl f0 n0) h j (by unfold maxLen; omega) (by omega) hb)
  have hNC := Lib.hid (fun (w1 : World) (g cap : Nat) (h : w1.ownsRow w.heap.size 32 1 (.slice (some ⟨g, 0, none⟩) (n0 + j) cap) (n0 + j) (pl f0 n0 ++ List.replicate j (.int .u32 0))) =>
    (row_nn (f := znx f0 n0) (by rw [← znx_pl]; exact h) (by omega) (fun i _ => znx_lt l0 i) : NN (vb 4294967296 (znx f0 n0) (n0 + j)) _ w1))
  rw [znx_vb] at hNC
  obtain ⟨A, eA⟩ : ∃ A, vb 4294967296 f0 n0 = A := ⟨_, rfl⟩
  obtain ⟨B, eB⟩ : ∃ B, vb 4294967296 f1 n1 = B := ⟨_, rfl⟩
  rw [eA] at OW0 RP hNC
  rw [eB] at OW1
  have CM := Lib.hid (fun x y w' (hx : NN A x w') (hy : NN B y w') => cmp_nn hx hy)
  have CN := Lib.hid (fun x y w' (hx : NN B x w') (hy : NN A y w') => cmp_nn hx hy)
  have LA := Lib.hid (fun x w' (hx : NN A x w') => len_nn hx)
  have LB := Lib.hid (fun x w' (hx : NN B x w') => len_nn hx)
  have hs1 := (sgn_bd A B).1
  have hs2 := (sgn_bd A B).2
  have hbl := sgn_bl A B
  rw [sgn_neg] at CN
  obtain ⟨s, hs⟩ : ∃ s, sgn A B = s := ⟨_, rfl⟩
  rw [hs] at CM CN hs1 hs2 hbl
  obtain ⟨X, hX⟩ : ∃ X, blN A = X := ⟨_, rfl⟩
  obtain ⟨Y, hY⟩ : ∃ Y, blN B = Y := ⟨_, rfl⟩
  rw [hX] at LA hbl
  rw [hY] at LB hbl
  have U0 := Lib.hid h0
  have U1 := Lib.hid h1
  have t1 : (k : Int).tmod 9 = (j : Int) := by rw [Int.tmod_eq_emod_of_nonneg (by omega)]; omega
  have t2 : (k : Int) % 9 = (j : Int) := by omega
  have t3 : IntKind.i64.wrap (-s) = -s := by rw [IntKind.wrap_i64]; omega
  have t4 : ((-s) != (-s)) = false := by simp
  have t5 : (s != s) = false := by simp
  have t6 : ((X : Int) != X) = false := by simp
  have hk0 : (0 : Int) ≤ k := by omega
  have hk1 : (k : Int) < 256 := by omega
  have HB := Lib.hid hbl
  have HS := Lib.hid (And.intro hs1 hs2)
  clear h0 h1 l0 l1 s0 s1 hi hz0 hz1 hz2 hj hj9 eA eB hX hY hs hbl hs1 hs2
  go_enter Try.func10, Try.ntmps10
  go_wp2_with fail
  refine OR.out.mono ?_
  rintro e w1 ⟨g, cap, rfl, hrow, hb⟩
  obtain ⟨g2, cap2, w2, hrun, hrow2, hgrow⟩ := hAP.out w1 g cap hrow hb.size
  have hbg : w.heap.size ≤ g := by
    rcases hrow.2 with ⟨h1, -⟩ | ⟨g3, cap3, cur, h1, h2, -⟩
    · cases h1
    · injection h1 with h1
      injection h1 with h1
      injection h1 with h1
      rw [h1]; exact h2
  have HW : Hid (Below w.heap.size w w2) := Lib.hid (hb.grown hgrow hb.size (fun j hj => by cases hj; exact hbg))
  have NC := Lib.hid (hNC.out w2 g2 cap2 hrow2)
  replace U0 := Lib.hid (U0.out.below HW.out)
  replace U1 := Lib.hid (U1.out.below HW.out)
  have HR := Lib.hid hrun
  clear hrun hrow hrow2 hgrow hbg hb OR hAP hNC
  go_wp2_with (at_builtin; refine Go.Lib.wpList_append_run _ rfl _ _ 23 3 rfl _ _ rfl rfl _ _ HR.out ?_)
  clear HR
  go_wp2_with fail
  refine (OW0.out _ _ U0.out).mono ?_
  rintro e wn ⟨x1, rfl, hx, hb⟩
  replace U0 := Lib.hid (U0.out.below hb)
  replace U1 := Lib.hid (U1.out.below hb)
  replace NC := Lib.hid (NC.out.below hb)
  replace HW := Lib.hid (HW.out.trans (hb.mono HW.out.size))
  have Nx1 := Lib.hid (hx)
  clear hb
  clear hx
  go_wp2_with fail
  refine (OW1.out _ _ U1.out).mono ?_
  rintro e wn ⟨x2, rfl, hx, hb⟩
  replace U0 := Lib.hid (U0.out.below hb)
  replace U1 := Lib.hid (U1.out.below hb)
  replace NC := Lib.hid (NC.out.below hb)
  replace Nx1 := Lib.hid (Nx1.out.below hb)
  replace HW := Lib.hid (HW.out.trans (hb.mono HW.out.size))
  have Nx2 := Lib.hid (hx)
  clear hb
  clear hx
  go_wp2_with fail
  refine (CM.out _ _ _ Nx1.out Nx2.out).mono ?_
  rintro e wn ⟨rfl, hb⟩
  replace U0 := Lib.hid (U0.out.below hb)
  replace U1 := Lib.hid (U1.out.below hb)
  replace NC := Lib.hid (NC.out.below hb)
  replace HW := Lib.hid (HW.out.trans (hb.mono HW.out.size))
  clear hb Nx1 Nx2
  go_wp2_with fail
  refine (OW1.out _ _ U1.out).mono ?_
  rintro e wn ⟨x3, rfl, hx, hb⟩
  replace U0 := Lib.hid (U0.out.below hb)
  replace U1 := Lib.hid (U1.out.below hb)
  replace NC := Lib.hid (NC.out.below hb)
  replace HW := Lib.hid (HW.out.trans (hb.mono HW.out.size))
  have Nx3 := Lib.hid (hx)
  clear hb
  clear hx
  go_wp2_with fail
  refine (OW0.out _ _ U0.out).mono ?_
  rintro e wn ⟨x4, rfl, hx, hb⟩
  replace U0 := Lib.hid (U0.out.below hb)
  replace U1 := Lib.hid (U1.out.below hb)
  replace NC := Lib.hid (NC.out.below hb)
  replace Nx3 := Lib.hid (Nx3.out.below hb)
  replace HW := Lib.hid (HW.out.trans (hb.mono HW.out.size))
  have Nx4 := Lib.hid (hx)
  clear hb
  clear hx
  go_wp2_with fail
  refine (CN.out _ _ _ Nx3.out Nx4.out).mono ?_
  rintro e wn ⟨rfl, hb⟩
  replace U0 := Lib.hid (U0.out.below hb)
  replace U1 := Lib.hid (U1.out.below hb)
  replace NC := Lib.hid (NC.out.below hb)
  replace HW := Lib.hid (HW.out.trans (hb.mono HW.out.size))
  clear hb Nx3 Nx4
  go_wp2_with fail
  refine (OW1.out _ _ U1.out).mono ?_
  rintro e wn ⟨x5, rfl, hx, hb⟩
  replace U0 := Lib.hid (U0.out.below hb)
  replace U1 := Lib.hid (U1.out.below hb)
  replace NC := Lib.hid (NC.out.below hb)
  replace HW := Lib.hid (HW.out.trans (hb.mono HW.out.size))
  have Nx5 := Lib.hid (hx)
  clear hb
  clear hx
  go_wp2_with fail
  refine (CM.out _ _ _ NC.out Nx5.out).mono ?_
  rintro e wn ⟨rfl, hb⟩
  replace U0 := Lib.hid (U0.out.below hb)
  replace U1 := Lib.hid (U1.out.below hb)
  replace NC := Lib.hid (NC.out.below hb)
  replace HW := Lib.hid (HW.out.trans (hb.mono HW.out.size))
  clear hb Nx5
  go_wp2_with fail
  refine (LA.out _ _ NC.out).mono ?_
  rintro e wn ⟨rfl, hb⟩
  replace U0 := Lib.hid (U0.out.below hb)
  replace U1 := Lib.hid (U1.out.below hb)
  replace NC := Lib.hid (NC.out.below hb)
  replace HW := Lib.hid (HW.out.trans (hb.mono HW.out.size))
  clear hb
  go_wp2_with fail
  refine (OW0.out _ _ U0.out).mono ?_
  rintro e wn ⟨x6, rfl, hx, hb⟩
  replace U0 := Lib.hid (U0.out.below hb)
  replace U1 := Lib.hid (U1.out.below hb)
  replace NC := Lib.hid (NC.out.below hb)
  replace HW := Lib.hid (HW.out.trans (hb.mono HW.out.size))
  have Nx6 := Lib.hid (hx)
  clear hb
  clear hx
  go_wp2_with fail
  refine (LA.out _ _ Nx6.out).mono ?_
  rintro e wn ⟨rfl, hb⟩
  replace U0 := Lib.hid (U0.out.below hb)
  replace U1 := Lib.hid (U1.out.below hb)
  replace NC := Lib.hid (NC.out.below hb)
  replace HW := Lib.hid (HW.out.trans (hb.mono HW.out.size))
  clear hb Nx6
  go_wp2_with fail
  refine (plain_nn NC.out).mono ?_
  rintro e wn ⟨x7, rfl, hx, hb⟩
  replace U0 := Lib.hid (U0.out.below hb)
  replace U1 := Lib.hid (U1.out.below hb)
  replace HW := Lib.hid (HW.out.trans (hb.mono HW.out.size))
  have P7 := Lib.hid (hx)
  clear hb NC
  clear hx
  go_wp2_with fail
  refine (RP.out _ _ U0.out).mono ?_
  rintro e wn ⟨x8, rfl, hx, hb⟩
  replace U0 := Lib.hid (U0.out.below hb)
  replace U1 := Lib.hid (U1.out.below hb)
  replace P7 := Lib.hid (P7.out.below hb)
  replace HW := Lib.hid (HW.out.trans (hb.mono HW.out.size))
  have P8 := Lib.hid (hx)
  clear hb
  clear hx
  go_wp2_with fail
  refine (same_nn P7.out P8.out).mono ?_
  rintro e wn ⟨rfl, hb⟩
  replace U0 := Lib.hid (U0.out.below hb)
  replace U1 := Lib.hid (U1.out.below hb)
  replace HW := Lib.hid (HW.out.trans (hb.mono HW.out.size))
  clear hb P7 P8
  go_wp2_with fail
  refine (OW0.out _ _ U0.out).mono ?_
  rintro e wn ⟨x9, rfl, hx, hb⟩
  replace U0 := Lib.hid (U0.out.below hb)
  replace U1 := Lib.hid (U1.out.below hb)
  replace HW := Lib.hid (HW.out.trans (hb.mono HW.out.size))
  have Nx9 := Lib.hid (hx)
  clear hb
  clear hx
  go_wp2_with fail
  refine (LA.out _ _ Nx9.out).mono ?_
  rintro e wn ⟨rfl, hb⟩
  replace U0 := Lib.hid (U0.out.below hb)
  replace U1 := Lib.hid (U1.out.below hb)
  replace HW := Lib.hid (HW.out.trans (hb.mono HW.out.size))
  clear hb Nx9
  go_wp2_with fail
  refine (OW1.out _ _ U1.out).mono ?_
  rintro e wn ⟨x10, rfl, hx, hb⟩
  replace U0 := Lib.hid (U0.out.below hb)
  replace U1 := Lib.hid (U1.out.below hb)
  replace HW := Lib.hid (HW.out.trans (hb.mono HW.out.size))
  have Nx10 := Lib.hid (hx)
  clear hb
  clear hx
  go_wp2_with fail
  refine (LB.out _ _ Nx10.out).mono ?_
  rintro e wn ⟨rfl, hb⟩
  replace HW := Lib.hid (HW.out.trans (hb.mono HW.out.size))
  clear hb Nx10 U0 U1
  have q0 : X < Y ∨ X = Y ∨ Y < X := Nat.lt_trichotomy X Y
  rcases q0 with q | q | q
  · have q1 : (X : Int) ≤ Y := by omega
    have q2 : ¬ (Y : Int) ≤ X := by omega
    have q3 : s < 0 := HB.out.1 q
    clear q
    go_wp2_with fail
    refine (lives_any _).mono ?_
    rintro e wn ⟨rfl, hb⟩
    replace HW := Lib.hid (HW.out.trans (hb.mono HW.out.size))
    clear hb
    go_wp2
    go_ret
    exact ⟨rfl, HW.out⟩
  · subst q
    have q1 : (X : Int) ≤ X := by omega
    go_wp2_with fail
    refine (lives_any _).mono ?_
    rintro e wn ⟨rfl, hb⟩
    replace HW := Lib.hid (HW.out.trans (hb.mono HW.out.size))
    clear hb
    go_wp2
    go_ret
    exact ⟨rfl, HW.out⟩
  · have q1 : (Y : Int) ≤ X := by omega
    have q2 : ¬ (X : Int) ≤ Y := by omega
    have q3 : 0 < s := HB.out.2 q
    clear q
    go_wp2_with fail
    refine (lives_any _).mono ?_
    rintro e wn ⟨rfl, hb⟩
    replace HW := Lib.hid (HW.out.trans (hb.mono HW.out.size))
    clear hb
    go_wp2
    go_ret
    exact ⟨rfl, HW.out⟩
end Go.Proofs.Ytgegkffigjogcaa

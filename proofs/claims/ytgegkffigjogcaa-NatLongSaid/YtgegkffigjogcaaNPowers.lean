/- bailiwicklaw02.NatPowers: whatever the lists: true. -/
import Derived.Test.YtgegkffigjogcaaNRExp
import Derived.Deep.QuietTactic
namespace Go.Proofs.Ytgegkffigjogcaa
open Go.RowKit

theorem few_eq (a : Option Addr) (n cap k m : Nat) (hc : n ≤ cap) (hk : (k : Int) ≤ 1000) (hm : min n k = m) (w : World) : Calls Try.prog 18 #[.slice a n cap, .int .i64 k] w fun e w' => e = .returned (.slice a m cap) ∧ w' = w := by
  have hk0 : (0 : Int) ≤ k := by omega
  by_cases hlt : k < n
  · have hlt' : (k : Int) < n := by omega
    have hsl := slice_nat a n cap k (by omega)
    obtain rfl : k = m := by omega
    clear hm
    go_enter Try.func18, Try.ntmps18
    go_wp2
    go_ret
    exact ⟨rfl, rfl⟩
  · have hlt' : ¬ (k : Int) < n := by omega
    obtain rfl : n = m := by omega
    clear hm
    go_enter Try.func18, Try.ntmps18
    go_wp2
    go_ret
    exact ⟨rfl, rfl⟩
theorem few_cut {w : World} {v : Value} {n : Nat} {f : Nat → Nat} (h : ArgN w v n f) (hf : ∀ j, j < n → f j < 4294967296) (k : Nat) (hk : (k : Int) ≤ 1000) (z : Int) (hz : z = (k : Int)) :
    ∃ a cap m V, v = .slice a n cap ∧ V < 4294967296 ^ k ∧ AN V (.slice a m cap) w ∧ ∀ w', Calls Try.prog 18 #[.slice a n cap, .int .i64 z] w' fun e w'' => e = .returned (.slice a m cap) ∧ w'' = w' := by
  obtain ⟨a, cap, rfl, hc, hn, hr⟩ := h
  subst hz
  exact ⟨a, cap, min n k, vb 4294967296 f (min n k), rfl, Nat.lt_of_lt_of_le (vb_lt (fun j hj => hf j (by omega))) (Nat.pow_le_pow_right (by omega) (by omega)),
    ⟨min n k, f, ⟨a, cap, rfl, by omega, hn, hr.less _ (by omega)⟩, by omega, fun j hj => hf j (by omega), rfl⟩, fun w' => few_eq a n cap k _ hc hk rfl w'⟩
theorem exp_fit {A E M K : Nat} {u v x : Value} {w : World} (hK : K ≤ 100) (kA : A < 4294967296 ^ K) (kE : E < 4294967296 ^ K) (kM : M < 4294967296 ^ K) (hM0 : 0 < M) (hA : NN A u w) (hE : NN E v w) (hM : NN M x w) : Calls Try.prog 31 #[u, v, x] w (Ans 0 (A ^ E % M) w) := by
  have h := exp_api hA hE hM
  have e : cdP A E M = 0 := by
    unfold cdP cd3
    rw [if_pos (cd2_fit (k := K) (j := K) (by omega) (by omega) kA kE), if_pos (cd_fit (k := K) (by omega) kM), if_neg (by omega)]
  rw [e] at h
  exact h
theorem exp_zero {A E K : Nat} {u v x : Value} {w : World} (hK : K ≤ 100) (kA : A < 4294967296 ^ K) (kE : E < 4294967296 ^ K) (hA : NN A u w) (hE : NN E v w) (hM : NN 0 x w) : Calls Try.prog 31 #[u, v, x] w (Ans 1 (A ^ E % 0) w) := by
  have h := exp_api hA hE hM
  have e : cdP A E 0 = 1 := by
    unfold cdP cd3
    rw [if_pos (cd2_fit (k := K) (j := K) (by omega) (by omega) kA kE), if_pos (small_cd (by omega)), if_pos rfl]
  rw [e] at h
  exact h
theorem divmod_fit {A M K : Nat} {u x : Value} {w : World} (hK : K ≤ 100) (kA : A < 4294967296 ^ K) (kM : M < 4294967296 ^ K) (hM0 : 0 < M) (hA : NN A u w) (hM : NN M x w) : Calls Try.prog 28 #[u, x] w (Ans3 0 (A / M) (A % M) w) := by
  have h := divmod_api hA hM
  have e : cdD A M = 0 := by
    unfold cdD
    rw [if_pos (cd2_fit (k := K) (j := K) (by omega) (by omega) kA kM), if_neg (by omega)]
  rw [e] at h
  exact h
theorem up_lt {A k j : Nat} (h : k ≤ j) (hA : A < 4294967296 ^ k) : A < 4294967296 ^ j := Nat.lt_of_lt_of_le hA (Nat.pow_le_pow_right (by omega) h)
set_option maxRecDepth 100000 in
set_option maxHeartbeats 8000000 in
theorem powers_any {w : World} {v0 v1 v2 v3 : Value} {n0 n1 n2 n3 : Nat} {f0 f1 f2 f3 : Nat → Nat} (h0 : ArgN w v0 n0 f0) (h1 : ArgN w v1 n1 f1) (h2 : ArgN w v2 n2 f2) (h3 : ArgN w v3 n3 f3)
    (l0 : ∀ j, j < n0 → f0 j < 4294967296) (l1 : ∀ j, j < n1 → f1 j < 4294967296) (l2 : ∀ j, j < n2 → f2 j < 4294967296) (l3 : ∀ j, j < n3 → f3 j < 4294967296) :
    Calls Try.prog 6 #[.agg #[v0, v1, v2], v3] w fun e w' => e = .returned (.bool true) ∧ Below w.heap.size w w' := by
  obtain ⟨a0, c0, m0, A, rfl, kA, hA, fA⟩ := few_cut h0 l0 6 (by omega) 6 rfl
  obtain ⟨a1, c1, m1, E, rfl, kE, hE, fE⟩ := few_cut h1 l1 3 (by omega) 3 rfl
  obtain ⟨a2, c2, m2, F, rfl, kF, hF, fF⟩ := few_cut h2 l2 3 (by omega) 3 rfl
  obtain ⟨a3, c3, m3, M, rfl, kM, hM, fM⟩ := few_cut h3 l3 6 (by omega) 6 rfl
  have UA := Lib.hid hA
  have UE := Lib.hid hE
  have UF := Lib.hid hF
  have UM := Lib.hid hM
  have FA := Lib.hid fA
  have FE := Lib.hid fE
  have FF := Lib.hid fF
  have FM := Lib.hid fM
  have kE' := up_lt (j := 6) (by omega) kE
  have kF' := up_lt (j := 6) (by omega) kF
  clear h0 h1 h2 h3 l0 l1 l2 l3 hA hE hF hM fA fE fF fM
  by_cases hM0 : M = 0
  · subst hM0
    have EX := Lib.hid (fun x y z w' (hx : NN A x w') (hy : NN E y w') (hz : NN 0 z w') => exp_zero (by omega) kA kE' hx hy hz)
    have RX := Lib.hid (fun x y z w' (hx : AN A x w') (hy : AN E y w') (hz : AN 0 z w') => rexp_zero (by omega) kA kE' hx hy hz)
    clear kA kE kF kM kE' kF'
    go_enter Try.func6, Try.ntmps6
    have HW : Hid (Below w.heap.size w w) := Lib.hid (Below.refl _ _)
    go_wp2_with fail
    go_quiet ((go_at_call 18; first | (with_reducible exact Calls.quiet_of_same (FA.out _)) | (with_reducible exact Calls.quiet_of_same (FE.out _)) | (with_reducible exact Calls.quiet_of_same (FF.out _))))
    obtain ⟨w2, hw2⟩ : ∃ w2, World.drewN (w.alloc (.cells #[.slice a0 n0 c0, .slice a1 n1 c1, .slice a2 n2 c2] 40)) nq = w2 := ⟨_, rfl⟩
    have hb : Below w.heap.size w w2 := by rw [← hw2]; exact below_drewN ((Below.refl _ _).alloc (Nat.le_refl _) _) _
    replace UA := Lib.hid (UA.out.below hb)
    replace UE := Lib.hid (UE.out.below hb)
    replace UF := Lib.hid (UF.out.below hb)
    replace UM := Lib.hid (UM.out.below hb)
    replace HW := Lib.hid hb
    clear hb
    rw [hw2]
    clear hw2
    go_wp2_with fail
    refine (FM.out _).mono ?_
    rintro e w' ⟨rfl, hw'⟩
    subst hw'
    clear FA FE FF FM
    go_wp2_with fail
    refine (own_an UA.out).mono ?_
    rintro e wn ⟨x1, rfl, hx, hb⟩
    replace UA := Lib.hid (UA.out.below hb)
    replace UE := Lib.hid (UE.out.below hb)
    replace UF := Lib.hid (UF.out.below hb)
    replace UM := Lib.hid (UM.out.below hb)
    replace HW := Lib.hid (HW.out.trans (hb.mono HW.out.size))
    have Nx1 := Lib.hid (hx)
    clear hb
    clear hx
    go_wp2_with fail
    refine (own_an UE.out).mono ?_
    rintro e wn ⟨x2, rfl, hx, hb⟩
    replace UA := Lib.hid (UA.out.below hb)
    replace UE := Lib.hid (UE.out.below hb)
    replace UF := Lib.hid (UF.out.below hb)
    replace UM := Lib.hid (UM.out.below hb)
    replace Nx1 := Lib.hid (Nx1.out.below hb)
    replace HW := Lib.hid (HW.out.trans (hb.mono HW.out.size))
    have Nx2 := Lib.hid (hx)
    clear hb
    clear hx
    go_wp2_with fail
    refine (own_an UM.out).mono ?_
    rintro e wn ⟨x3, rfl, hx, hb⟩
    replace UA := Lib.hid (UA.out.below hb)
    replace UE := Lib.hid (UE.out.below hb)
    replace UF := Lib.hid (UF.out.below hb)
    replace UM := Lib.hid (UM.out.below hb)
    replace Nx1 := Lib.hid (Nx1.out.below hb)
    replace Nx2 := Lib.hid (Nx2.out.below hb)
    replace HW := Lib.hid (HW.out.trans (hb.mono HW.out.size))
    have Nx3 := Lib.hid (hx)
    clear hb
    clear hx
    go_wp2_with fail
    refine (EX.out _ _ _ _ Nx1.out Nx2.out Nx3.out).mono ?_
    rintro e wn ⟨x4, rfl, -, hz, hb⟩
    obtain rfl := hz (by decide)
    clear hz
    replace UA := Lib.hid (UA.out.below hb)
    replace UE := Lib.hid (UE.out.below hb)
    replace UF := Lib.hid (UF.out.below hb)
    replace UM := Lib.hid (UM.out.below hb)
    replace HW := Lib.hid (HW.out.trans (hb.mono HW.out.size))
    clear hb Nx1 Nx2 Nx3
    go_wp2_with fail
    refine (RX.out _ _ _ _ UA.out UE.out UM.out).mono ?_
    rintro e wn ⟨x5, rfl, -, hz, hb⟩
    obtain rfl := hz (by decide)
    clear hz
    replace UA := Lib.hid (UA.out.below hb)
    replace UE := Lib.hid (UE.out.below hb)
    replace UF := Lib.hid (UF.out.below hb)
    replace UM := Lib.hid (UM.out.below hb)
    replace HW := Lib.hid (HW.out.trans (hb.mono HW.out.size))
    clear hb
    go_wp2_with fail
    refine (same_nn (pv_nil _) (pv_nil _)).mono ?_
    rintro e wn ⟨rfl, hb⟩
    replace UA := Lib.hid (UA.out.below hb)
    replace UE := Lib.hid (UE.out.below hb)
    replace UF := Lib.hid (UF.out.below hb)
    replace UM := Lib.hid (UM.out.below hb)
    replace HW := Lib.hid (HW.out.trans (hb.mono HW.out.size))
    clear hb
    go_wp2_with fail
    refine (lives_any _).mono ?_
    rintro e wn ⟨rfl, hb⟩
    replace UA := Lib.hid (UA.out.below hb)
    replace UE := Lib.hid (UE.out.below hb)
    replace UF := Lib.hid (UF.out.below hb)
    replace UM := Lib.hid (UM.out.below hb)
    replace HW := Lib.hid (HW.out.trans (hb.mono HW.out.size))
    clear hb
    go_wp2
    go_ret
    exact ⟨rfl, HW.out⟩
  · have hM1 : 0 < M := by omega
    have EX := Lib.hid (fun x y z w' (hx : NN A x w') (hy : NN E y w') (hz : NN M z w') => exp_fit (by omega) kA kE' kM hM1 hx hy hz)
    have EF := Lib.hid (fun x y z w' (hx : NN A x w') (hy : NN F y w') (hz : NN M z w') => exp_fit (by omega) kA kF' kM hM1 hx hy hz)
    have ES := Lib.hid (fun x y z w' (hx : NN A x w') (hy : NN (E + F) y w') (hz : NN M z w') => exp_fit (by omega) kA (up_lt (by omega) (fit_add (by omega) kE kF)) kM hM1 hx hy hz)
    have RX := Lib.hid (fun x y z w' (hx : AN A x w') (hy : AN E y w') (hz : AN M z w') => rexp_fit (by omega) (by omega) kA kE' kM hM1 hx hy hz)
    have AD := Lib.hid (fun x y w' (hx : NN E x w') (hy : NN F y w') => add_fit (by omega) kE kF hx hy)
    have b1 : A ^ E % M < 4294967296 ^ 6 := Nat.lt_trans (Nat.mod_lt _ hM1) kM
    have b2 : A ^ F % M < 4294967296 ^ 6 := Nat.lt_trans (Nat.mod_lt _ hM1) kM
    have MU := Lib.hid (fun x y w' (hx : NN (A ^ E % M) x w') (hy : NN (A ^ F % M) y w') => mul_fit (k := 6) (j := 6) (by omega) b1 b2 hx hy)
    have DM := Lib.hid (fun x y w' (hx : NN ((A ^ E % M) * (A ^ F % M)) x w') (hy : NN M y w') => divmod_fit (K := 12) (by omega) (by
      rw [show 12 = 6 + 6 by rfl, Nat.pow_add]
      exact Nat.mul_lt_mul'' b1 b2) (up_lt (by omega) kM) hM1 hx hy)
    have em : (A ^ E % M) * (A ^ F % M) % M = A ^ (E + F) % M := by rw [← Nat.mul_mod, ← Nat.pow_add]
    rw [em] at DM
    clear kA kE kF kM kE' kF' hM0 hM1 b1 b2 em
    go_enter Try.func6, Try.ntmps6
    have HW : Hid (Below w.heap.size w w) := Lib.hid (Below.refl _ _)
    go_wp2_with fail
    go_quiet ((go_at_call 18; first | (with_reducible exact Calls.quiet_of_same (FA.out _)) | (with_reducible exact Calls.quiet_of_same (FE.out _)) | (with_reducible exact Calls.quiet_of_same (FF.out _))))
    obtain ⟨w2, hw2⟩ : ∃ w2, World.drewN (w.alloc (.cells #[.slice a0 n0 c0, .slice a1 n1 c1, .slice a2 n2 c2] 40)) nq = w2 := ⟨_, rfl⟩
    have hb : Below w.heap.size w w2 := by rw [← hw2]; exact below_drewN ((Below.refl _ _).alloc (Nat.le_refl _) _) _
    replace UA := Lib.hid (UA.out.below hb)
    replace UE := Lib.hid (UE.out.below hb)
    replace UF := Lib.hid (UF.out.below hb)
    replace UM := Lib.hid (UM.out.below hb)
    replace HW := Lib.hid hb
    clear hb
    rw [hw2]
    clear hw2
    go_wp2_with fail
    refine (FM.out _).mono ?_
    rintro e w' ⟨rfl, hw'⟩
    subst hw'
    clear FA FE FF FM
    go_wp2_with fail
    refine (own_an UA.out).mono ?_
    rintro e wn ⟨x1, rfl, hx, hb⟩
    replace UA := Lib.hid (UA.out.below hb)
    replace UE := Lib.hid (UE.out.below hb)
    replace UF := Lib.hid (UF.out.below hb)
    replace UM := Lib.hid (UM.out.below hb)
    replace HW := Lib.hid (HW.out.trans (hb.mono HW.out.size))
    have Nx1 := Lib.hid (hx)
    clear hb
    clear hx
    go_wp2_with fail
    refine (own_an UE.out).mono ?_
    rintro e wn ⟨x2, rfl, hx, hb⟩
    replace UA := Lib.hid (UA.out.below hb)
    replace UE := Lib.hid (UE.out.below hb)
    replace UF := Lib.hid (UF.out.below hb)
    replace UM := Lib.hid (UM.out.below hb)
    replace Nx1 := Lib.hid (Nx1.out.below hb)
    replace HW := Lib.hid (HW.out.trans (hb.mono HW.out.size))
    have Nx2 := Lib.hid (hx)
    clear hb
    clear hx
    go_wp2_with fail
    refine (own_an UM.out).mono ?_
    rintro e wn ⟨x3, rfl, hx, hb⟩
    replace UA := Lib.hid (UA.out.below hb)
    replace UE := Lib.hid (UE.out.below hb)
    replace UF := Lib.hid (UF.out.below hb)
    replace UM := Lib.hid (UM.out.below hb)
    replace Nx1 := Lib.hid (Nx1.out.below hb)
    replace Nx2 := Lib.hid (Nx2.out.below hb)
    replace HW := Lib.hid (HW.out.trans (hb.mono HW.out.size))
    have Nx3 := Lib.hid (hx)
    clear hb
    clear hx
    go_wp2_with fail
    refine (EX.out _ _ _ _ Nx1.out Nx2.out Nx3.out).mono ?_
    rintro e wn ⟨x4, rfl, hx, -, hb⟩
    replace hx := hx rfl
    replace UA := Lib.hid (UA.out.below hb)
    replace UE := Lib.hid (UE.out.below hb)
    replace UF := Lib.hid (UF.out.below hb)
    replace UM := Lib.hid (UM.out.below hb)
    replace HW := Lib.hid (HW.out.trans (hb.mono HW.out.size))
    have PX := Lib.hid (hx)
    clear hb Nx1 Nx2 Nx3
    clear hx
    go_wp2_with fail
    refine (RX.out _ _ _ _ UA.out UE.out UM.out).mono ?_
    rintro e wn ⟨x5, rfl, hx, -, hb⟩
    replace hx := hx rfl
    replace UA := Lib.hid (UA.out.below hb)
    replace UE := Lib.hid (UE.out.below hb)
    replace UF := Lib.hid (UF.out.below hb)
    replace UM := Lib.hid (UM.out.below hb)
    replace PX := Lib.hid (PX.out.below hb)
    replace HW := Lib.hid (HW.out.trans (hb.mono HW.out.size))
    have PY := Lib.hid (hx)
    clear hb
    clear hx
    go_wp2_with fail
    refine (same_nn PX.out PY.out.pv).mono ?_
    rintro e wn ⟨rfl, hb⟩
    replace UA := Lib.hid (UA.out.below hb)
    replace UE := Lib.hid (UE.out.below hb)
    replace UF := Lib.hid (UF.out.below hb)
    replace UM := Lib.hid (UM.out.below hb)
    replace PX := Lib.hid (PX.out.below hb)
    replace HW := Lib.hid (HW.out.trans (hb.mono HW.out.size))
    clear hb PY
    go_wp2_with fail
    refine (own_an UE.out).mono ?_
    rintro e wn ⟨x6, rfl, hx, hb⟩
    replace UA := Lib.hid (UA.out.below hb)
    replace UE := Lib.hid (UE.out.below hb)
    replace UF := Lib.hid (UF.out.below hb)
    replace UM := Lib.hid (UM.out.below hb)
    replace PX := Lib.hid (PX.out.below hb)
    replace HW := Lib.hid (HW.out.trans (hb.mono HW.out.size))
    have Nx6 := Lib.hid (hx)
    clear hb
    clear hx
    go_wp2_with fail
    refine (own_an UF.out).mono ?_
    rintro e wn ⟨x7, rfl, hx, hb⟩
    replace UA := Lib.hid (UA.out.below hb)
    replace UE := Lib.hid (UE.out.below hb)
    replace UF := Lib.hid (UF.out.below hb)
    replace UM := Lib.hid (UM.out.below hb)
    replace PX := Lib.hid (PX.out.below hb)
    replace Nx6 := Lib.hid (Nx6.out.below hb)
    replace HW := Lib.hid (HW.out.trans (hb.mono HW.out.size))
    have Nx7 := Lib.hid (hx)
    clear hb
    clear hx
    go_wp2_with fail
    refine (AD.out _ _ _ Nx6.out Nx7.out).mono ?_
    rintro e wn ⟨x8, rfl, hx, -, hb⟩
    replace hx := hx rfl
    replace UA := Lib.hid (UA.out.below hb)
    replace UE := Lib.hid (UE.out.below hb)
    replace UF := Lib.hid (UF.out.below hb)
    replace UM := Lib.hid (UM.out.below hb)
    replace PX := Lib.hid (PX.out.below hb)
    replace HW := Lib.hid (HW.out.trans (hb.mono HW.out.size))
    have PS := Lib.hid (hx)
    clear hb Nx6 Nx7
    clear hx
    go_wp2_with fail
    refine (own_an UA.out).mono ?_
    rintro e wn ⟨x9, rfl, hx, hb⟩
    replace UA := Lib.hid (UA.out.below hb)
    replace UE := Lib.hid (UE.out.below hb)
    replace UF := Lib.hid (UF.out.below hb)
    replace UM := Lib.hid (UM.out.below hb)
    replace PX := Lib.hid (PX.out.below hb)
    replace PS := Lib.hid (PS.out.below hb)
    replace HW := Lib.hid (HW.out.trans (hb.mono HW.out.size))
    have Nx9 := Lib.hid (hx)
    clear hb
    clear hx
    go_wp2_with fail
    refine (own_an UM.out).mono ?_
    rintro e wn ⟨x10, rfl, hx, hb⟩
    replace UA := Lib.hid (UA.out.below hb)
    replace UE := Lib.hid (UE.out.below hb)
    replace UF := Lib.hid (UF.out.below hb)
    replace UM := Lib.hid (UM.out.below hb)
    replace PX := Lib.hid (PX.out.below hb)
    replace PS := Lib.hid (PS.out.below hb)
    replace Nx9 := Lib.hid (Nx9.out.below hb)
    replace HW := Lib.hid (HW.out.trans (hb.mono HW.out.size))
    have Nx10 := Lib.hid (hx)
    clear hb
    clear hx
    go_wp2_with fail
    refine (ES.out _ _ _ _ Nx9.out PS.out.nn Nx10.out).mono ?_
    rintro e wn ⟨x11, rfl, hx, -, hb⟩
    replace hx := hx rfl
    replace UA := Lib.hid (UA.out.below hb)
    replace UE := Lib.hid (UE.out.below hb)
    replace UF := Lib.hid (UF.out.below hb)
    replace UM := Lib.hid (UM.out.below hb)
    replace PX := Lib.hid (PX.out.below hb)
    replace HW := Lib.hid (HW.out.trans (hb.mono HW.out.size))
    have PW := Lib.hid (hx)
    clear hb Nx9 PS Nx10
    clear hx
    go_wp2_with fail
    refine (own_an UA.out).mono ?_
    rintro e wn ⟨x12, rfl, hx, hb⟩
    replace UA := Lib.hid (UA.out.below hb)
    replace UE := Lib.hid (UE.out.below hb)
    replace UF := Lib.hid (UF.out.below hb)
    replace UM := Lib.hid (UM.out.below hb)
    replace PX := Lib.hid (PX.out.below hb)
    replace PW := Lib.hid (PW.out.below hb)
    replace HW := Lib.hid (HW.out.trans (hb.mono HW.out.size))
    have Nx12 := Lib.hid (hx)
    clear hb
    clear hx
    go_wp2_with fail
    refine (own_an UF.out).mono ?_
    rintro e wn ⟨x13, rfl, hx, hb⟩
    replace UA := Lib.hid (UA.out.below hb)
    replace UE := Lib.hid (UE.out.below hb)
    replace UF := Lib.hid (UF.out.below hb)
    replace UM := Lib.hid (UM.out.below hb)
    replace PX := Lib.hid (PX.out.below hb)
    replace PW := Lib.hid (PW.out.below hb)
    replace Nx12 := Lib.hid (Nx12.out.below hb)
    replace HW := Lib.hid (HW.out.trans (hb.mono HW.out.size))
    have Nx13 := Lib.hid (hx)
    clear hb
    clear hx
    go_wp2_with fail
    refine (own_an UM.out).mono ?_
    rintro e wn ⟨x14, rfl, hx, hb⟩
    replace UA := Lib.hid (UA.out.below hb)
    replace UE := Lib.hid (UE.out.below hb)
    replace UF := Lib.hid (UF.out.below hb)
    replace UM := Lib.hid (UM.out.below hb)
    replace PX := Lib.hid (PX.out.below hb)
    replace PW := Lib.hid (PW.out.below hb)
    replace Nx12 := Lib.hid (Nx12.out.below hb)
    replace Nx13 := Lib.hid (Nx13.out.below hb)
    replace HW := Lib.hid (HW.out.trans (hb.mono HW.out.size))
    have Nx14 := Lib.hid (hx)
    clear hb
    clear hx
    go_wp2_with fail
    refine (EF.out _ _ _ _ Nx12.out Nx13.out Nx14.out).mono ?_
    rintro e wn ⟨x15, rfl, hx, -, hb⟩
    replace hx := hx rfl
    replace UA := Lib.hid (UA.out.below hb)
    replace UE := Lib.hid (UE.out.below hb)
    replace UF := Lib.hid (UF.out.below hb)
    replace UM := Lib.hid (UM.out.below hb)
    replace PX := Lib.hid (PX.out.below hb)
    replace PW := Lib.hid (PW.out.below hb)
    replace HW := Lib.hid (HW.out.trans (hb.mono HW.out.size))
    have PZ := Lib.hid (hx)
    clear hb Nx12 Nx13 Nx14
    clear hx
    go_wp2_with fail
    refine (MU.out _ _ _ PX.out.nn PZ.out.nn).mono ?_
    rintro e wn ⟨x16, rfl, hx, -, hb⟩
    replace hx := hx rfl
    replace UA := Lib.hid (UA.out.below hb)
    replace UE := Lib.hid (UE.out.below hb)
    replace UF := Lib.hid (UF.out.below hb)
    replace UM := Lib.hid (UM.out.below hb)
    replace PW := Lib.hid (PW.out.below hb)
    replace HW := Lib.hid (HW.out.trans (hb.mono HW.out.size))
    have PQ := Lib.hid (hx)
    clear hb PX PZ
    clear hx
    go_wp2_with fail
    refine (own_an UM.out).mono ?_
    rintro e wn ⟨x17, rfl, hx, hb⟩
    replace UA := Lib.hid (UA.out.below hb)
    replace UE := Lib.hid (UE.out.below hb)
    replace UF := Lib.hid (UF.out.below hb)
    replace UM := Lib.hid (UM.out.below hb)
    replace PW := Lib.hid (PW.out.below hb)
    replace PQ := Lib.hid (PQ.out.below hb)
    replace HW := Lib.hid (HW.out.trans (hb.mono HW.out.size))
    have Nx17 := Lib.hid (hx)
    clear hb
    clear hx
    go_wp2_with fail
    refine (DM.out _ _ _ PQ.out.nn Nx17.out).mono ?_
    rintro e wn ⟨x18, x19, rfl, hx, -, hb⟩
    replace hx := (hx rfl).2
    replace UA := Lib.hid (UA.out.below hb)
    replace UE := Lib.hid (UE.out.below hb)
    replace UF := Lib.hid (UF.out.below hb)
    replace UM := Lib.hid (UM.out.below hb)
    replace PW := Lib.hid (PW.out.below hb)
    replace HW := Lib.hid (HW.out.trans (hb.mono HW.out.size))
    have PR := Lib.hid (hx)
    clear hb PQ Nx17
    clear hx
    go_wp2_with fail
    refine (same_nn PW.out PR.out).mono ?_
    rintro e wn ⟨rfl, hb⟩
    replace UA := Lib.hid (UA.out.below hb)
    replace UE := Lib.hid (UE.out.below hb)
    replace UF := Lib.hid (UF.out.below hb)
    replace UM := Lib.hid (UM.out.below hb)
    replace HW := Lib.hid (HW.out.trans (hb.mono HW.out.size))
    clear hb PW PR
    go_wp2_with fail
    refine (lives_any _).mono ?_
    rintro e wn ⟨rfl, hb⟩
    replace UA := Lib.hid (UA.out.below hb)
    replace UE := Lib.hid (UE.out.below hb)
    replace UF := Lib.hid (UF.out.below hb)
    replace UM := Lib.hid (UM.out.below hb)
    replace HW := Lib.hid (HW.out.trans (hb.mono HW.out.size))
    clear hb
    go_wp2
    go_ret
    exact ⟨rfl, HW.out⟩
end Go.Proofs.Ytgegkffigjogcaa

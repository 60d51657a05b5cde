/- bailiwicklaw02.NatDivides: whatever the lists: true. -/
import Derived.Test.YtgegkffigjogcaaNLaw
namespace Go.Proofs.Ytgegkffigjogcaa
open Go.RowKit

set_option maxRecDepth 100000 in
set_option maxHeartbeats 4000000 in
theorem divides_any {w : World} {v0 v1 : Value} {n0 n1 : Nat} {f0 f1 : Nat → Nat} (h0 : ArgN w v0 n0 f0) (h1 : ArgN w v1 n1 f1)
    (l0 : ∀ j, j < n0 → f0 j < 4294967296) (l1 : ∀ j, j < n1 → f1 j < 4294967296) :
    Calls Try.prog 5 #[v0, v1] w fun e w' => e = .returned (.bool true) ∧ Below w.heap.size w w' := by
  obtain ⟨A, kA, fA⟩ := few_an h0 l0 60 (by omega)
  obtain ⟨B, kB, fB⟩ := few_an h1 l1 60 (by omega)
  have FA := Lib.hid fA
  have FB := Lib.hid fB
  have ec := cd2_fit (k := 60) (j := 60) (by omega) (by omega) kA kB
  have DM := Lib.hid (fun x y w' (hx : NN A x w') (hy : NN B y w') => divmod_api hx hy)
  have RD := Lib.hid (fun x y w' (hx : AN A x w') (hy : AN B y w') => rdivmod_an (K := 60) (by omega) kA kB hx hy)
  unfold cdD at DM RD
  rw [if_pos ec] at DM RD
  clear ec fA fB h0 h1 l0 l1
  by_cases hB : B = 0
  · rw [if_pos hB] at DM RD
    clear hB kA kB
    go_enter Try.func5, Try.ntmps5
    have HW : Hid (Below w.heap.size w w) := Lib.hid (Below.refl _ _)
    go_wp2_with fail
    refine FA.out.mono ?_
    rintro e w' ⟨u0, rfl, hu, rfl⟩
    have UA := Lib.hid hu
    clear hu FA
    go_wp2_with fail
    refine FB.out.mono ?_
    rintro e w' ⟨u1, rfl, hu, rfl⟩
    have UB := Lib.hid hu
    clear hu FB
    go_wp2_with fail
    refine (own_an UA.out).mono ?_
    rintro e wn ⟨x1, rfl, hx, hb⟩
    replace UA := Lib.hid (UA.out.below hb)
    replace UB := Lib.hid (UB.out.below hb)
    replace HW := Lib.hid (HW.out.trans (hb.mono HW.out.size))
    have Nx1 := Lib.hid (hx)
    clear hb
    clear hx
    go_wp2_with fail
    refine (own_an UB.out).mono ?_
    rintro e wn ⟨x2, rfl, hx, hb⟩
    replace UA := Lib.hid (UA.out.below hb)
    replace UB := Lib.hid (UB.out.below hb)
    replace Nx1 := Lib.hid (Nx1.out.below hb)
    replace HW := Lib.hid (HW.out.trans (hb.mono HW.out.size))
    have Nx2 := Lib.hid (hx)
    clear hb
    clear hx
    go_wp2_with fail
    refine (DM.out _ _ _ Nx1.out Nx2.out).mono ?_
    rintro e wn ⟨x3, x4, rfl, -, hz, hb⟩
    obtain ⟨rfl, rfl⟩ := hz (by decide)
    clear hz
    replace UA := Lib.hid (UA.out.below hb)
    replace UB := Lib.hid (UB.out.below hb)
    replace HW := Lib.hid (HW.out.trans (hb.mono HW.out.size))
    clear hb Nx1 Nx2
    go_wp2_with fail
    refine (RD.out _ _ _ UA.out UB.out).mono ?_
    rintro e wn ⟨x5, x6, rfl, -, hz, hb⟩
    obtain ⟨rfl, rfl⟩ := hz (by decide)
    clear hz
    replace UA := Lib.hid (UA.out.below hb)
    replace UB := Lib.hid (UB.out.below hb)
    replace HW := Lib.hid (HW.out.trans (hb.mono HW.out.size))
    clear hb
    go_wp2_with fail
    refine (same_nn (pv_nil _) (pv_nil _)).mono ?_
    rintro e wn ⟨rfl, hb⟩
    replace UA := Lib.hid (UA.out.below hb)
    replace UB := Lib.hid (UB.out.below hb)
    replace HW := Lib.hid (HW.out.trans (hb.mono HW.out.size))
    clear hb
    go_wp2_with fail
    refine (same_nn (pv_nil _) (pv_nil _)).mono ?_
    rintro e wn ⟨rfl, hb⟩
    replace UA := Lib.hid (UA.out.below hb)
    replace UB := Lib.hid (UB.out.below hb)
    replace HW := Lib.hid (HW.out.trans (hb.mono HW.out.size))
    clear hb
    go_wp2_with fail
    refine (lives_any _).mono ?_
    rintro e wn ⟨rfl, hb⟩
    replace UA := Lib.hid (UA.out.below hb)
    replace UB := Lib.hid (UB.out.below hb)
    replace HW := Lib.hid (HW.out.trans (hb.mono HW.out.size))
    clear hb
    go_wp2
    go_ret
    exact ⟨rfl, HW.out⟩
  · rw [if_neg hB] at DM RD
    have MU := Lib.hid (fun x y w' (hx : NN (A / B) x w') (hy : NN B y w') => mul_fit (k := 60) (j := 60) (by omega) (Nat.lt_of_le_of_lt (Nat.div_le_self _ _) kA) kB hx hy)
    have e2 : A / B * B + A % B = A := by rw [Nat.mul_comm]; exact Nat.div_add_mod A B
    have kq : A / B * B < 4294967296 ^ 60 := Nat.lt_of_le_of_lt (Nat.div_mul_le_self _ _) kA
    have kr : A % B < 4294967296 ^ 60 := Nat.lt_of_le_of_lt (Nat.mod_le _ _) kA
    have AD := Lib.hid (fun x y w' (hx : NN (A / B * B) x w') (hy : NN (A % B) y w') => add_fit (k := 60) (by omega) kq kr hx hy)
    rw [e2] at AD
    have CM := Lib.hid (fun x y w' (hx : NN (A % B) x w') (hy : NN B y w') => cmp_nn hx hy)
    rw [sgn_lt (Nat.mod_lt _ (by omega))] at CM
    clear hB kA kB e2 kq kr
    go_enter Try.func5, Try.ntmps5
    have HW : Hid (Below w.heap.size w w) := Lib.hid (Below.refl _ _)
    go_wp2_with fail
    refine FA.out.mono ?_
    rintro e w' ⟨u0, rfl, hu, rfl⟩
    have UA := Lib.hid hu
    clear hu FA
    go_wp2_with fail
    refine FB.out.mono ?_
    rintro e w' ⟨u1, rfl, hu, rfl⟩
    have UB := Lib.hid hu
    clear hu FB
    go_wp2_with fail
    refine (own_an UA.out).mono ?_
    rintro e wn ⟨x1, rfl, hx, hb⟩
    replace UA := Lib.hid (UA.out.below hb)
    replace UB := Lib.hid (UB.out.below hb)
    replace HW := Lib.hid (HW.out.trans (hb.mono HW.out.size))
    have Nx1 := Lib.hid (hx)
    clear hb
    clear hx
    go_wp2_with fail
    refine (own_an UB.out).mono ?_
    rintro e wn ⟨x2, rfl, hx, hb⟩
    replace UA := Lib.hid (UA.out.below hb)
    replace UB := Lib.hid (UB.out.below hb)
    replace Nx1 := Lib.hid (Nx1.out.below hb)
    replace HW := Lib.hid (HW.out.trans (hb.mono HW.out.size))
    have Nx2 := Lib.hid (hx)
    clear hb
    clear hx
    go_wp2_with fail
    refine (DM.out _ _ _ Nx1.out Nx2.out).mono ?_
    rintro e wn ⟨x3, x4, rfl, hz, -, hb⟩
    have hq := (hz rfl).1
    have hr := (hz rfl).2
    clear hz
    replace UA := Lib.hid (UA.out.below hb)
    replace UB := Lib.hid (UB.out.below hb)
    replace HW := Lib.hid (HW.out.trans (hb.mono HW.out.size))
    have Q := Lib.hid (hq)
    have R := Lib.hid (hr)
    clear hb Nx1 Nx2
    clear hq hr
    go_wp2_with fail
    refine (RD.out _ _ _ UA.out UB.out).mono ?_
    rintro e wn ⟨x5, x6, rfl, hz, -, hb⟩
    have hq := (hz rfl).1
    have hr := (hz rfl).2
    clear hz
    replace UA := Lib.hid (UA.out.below hb)
    replace UB := Lib.hid (UB.out.below hb)
    replace Q := Lib.hid (Q.out.below hb)
    replace R := Lib.hid (R.out.below hb)
    replace HW := Lib.hid (HW.out.trans (hb.mono HW.out.size))
    have Q2 := Lib.hid (hq)
    have R2 := Lib.hid (hr)
    clear hb
    clear hq hr
    go_wp2_with fail
    refine (same_nn Q.out Q2.out.pv).mono ?_
    rintro e wn ⟨rfl, hb⟩
    replace UA := Lib.hid (UA.out.below hb)
    replace UB := Lib.hid (UB.out.below hb)
    replace Q := Lib.hid (Q.out.below hb)
    replace R := Lib.hid (R.out.below hb)
    replace R2 := Lib.hid (R2.out.below hb)
    replace HW := Lib.hid (HW.out.trans (hb.mono HW.out.size))
    clear hb Q2
    go_wp2_with fail
    refine (same_nn R.out R2.out.pv).mono ?_
    rintro e wn ⟨rfl, hb⟩
    replace UA := Lib.hid (UA.out.below hb)
    replace UB := Lib.hid (UB.out.below hb)
    replace Q := Lib.hid (Q.out.below hb)
    replace R := Lib.hid (R.out.below hb)
    replace HW := Lib.hid (HW.out.trans (hb.mono HW.out.size))
    clear hb R2
    go_wp2_with fail
    refine (own_an UB.out).mono ?_
    rintro e wn ⟨x7, rfl, hx, hb⟩
    replace UA := Lib.hid (UA.out.below hb)
    replace UB := Lib.hid (UB.out.below hb)
    replace Q := Lib.hid (Q.out.below hb)
    replace R := Lib.hid (R.out.below hb)
    replace HW := Lib.hid (HW.out.trans (hb.mono HW.out.size))
    have Nx7 := Lib.hid (hx)
    clear hb
    clear hx
    go_wp2_with fail
    refine (MU.out _ _ _ Q.out.nn Nx7.out).mono ?_
    rintro e wn ⟨x8, rfl, hx, -, hb⟩
    replace hx := hx rfl
    replace UA := Lib.hid (UA.out.below hb)
    replace UB := Lib.hid (UB.out.below hb)
    replace R := Lib.hid (R.out.below hb)
    replace HW := Lib.hid (HW.out.trans (hb.mono HW.out.size))
    have P8 := Lib.hid (hx)
    clear hb Q Nx7
    clear hx
    go_wp2_with fail
    refine (AD.out _ _ _ P8.out.nn R.out.nn).mono ?_
    rintro e wn ⟨x9, rfl, hx, -, hb⟩
    replace hx := hx rfl
    replace UA := Lib.hid (UA.out.below hb)
    replace UB := Lib.hid (UB.out.below hb)
    replace R := Lib.hid (R.out.below hb)
    replace HW := Lib.hid (HW.out.trans (hb.mono HW.out.size))
    have P9 := Lib.hid (hx)
    clear hb P8
    clear hx
    go_wp2_with fail
    refine (plain_an UA.out).mono ?_
    rintro e wn ⟨x10, rfl, hx, hb⟩
    replace UA := Lib.hid (UA.out.below hb)
    replace UB := Lib.hid (UB.out.below hb)
    replace R := Lib.hid (R.out.below hb)
    replace P9 := Lib.hid (P9.out.below hb)
    replace HW := Lib.hid (HW.out.trans (hb.mono HW.out.size))
    have P10 := Lib.hid (hx)
    clear hb
    clear hx
    go_wp2_with fail
    refine (same_nn P9.out P10.out.pv).mono ?_
    rintro e wn ⟨rfl, hb⟩
    replace UA := Lib.hid (UA.out.below hb)
    replace UB := Lib.hid (UB.out.below hb)
    replace R := Lib.hid (R.out.below hb)
    replace HW := Lib.hid (HW.out.trans (hb.mono HW.out.size))
    clear hb P9 P10
    go_wp2_with fail
    refine (own_an UB.out).mono ?_
    rintro e wn ⟨x11, rfl, hx, hb⟩
    replace UA := Lib.hid (UA.out.below hb)
    replace UB := Lib.hid (UB.out.below hb)
    replace R := Lib.hid (R.out.below hb)
    replace HW := Lib.hid (HW.out.trans (hb.mono HW.out.size))
    have Nx11 := Lib.hid (hx)
    clear hb
    clear hx
    go_wp2_with fail
    refine (CM.out _ _ _ R.out.nn Nx11.out).mono ?_
    rintro e wn ⟨rfl, hb⟩
    replace UA := Lib.hid (UA.out.below hb)
    replace UB := Lib.hid (UB.out.below hb)
    replace HW := Lib.hid (HW.out.trans (hb.mono HW.out.size))
    clear hb R Nx11
    go_wp2_with fail
    refine (lives_any _).mono ?_
    rintro e wn ⟨rfl, hb⟩
    replace UA := Lib.hid (UA.out.below hb)
    replace UB := Lib.hid (UB.out.below hb)
    replace HW := Lib.hid (HW.out.trans (hb.mono HW.out.size))
    clear hb
    go_wp2
    go_ret
    exact ⟨rfl, HW.out⟩
end Go.Proofs.Ytgegkffigjogcaa

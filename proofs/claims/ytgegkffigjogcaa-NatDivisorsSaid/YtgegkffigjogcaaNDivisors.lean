/- bailiwicklaw02.NatDivisors: whatever the lists: true. -/
import Derived.Test.YtgegkffigjogcaaNGcd
namespace Go.Proofs.Ytgegkffigjogcaa
open Go.RowKit

set_option maxRecDepth 100000 in
set_option maxHeartbeats 8000000 in
theorem divisors_any {w : World} {v0 v1 : Value} {n0 n1 : Nat} {f0 f1 : Nat → Nat} (h0 : ArgN w v0 n0 f0) (h1 : ArgN w v1 n1 f1)
    (l0 : ∀ j, j < n0 → f0 j < 4294967296) (l1 : ∀ j, j < n1 → f1 j < 4294967296) :
    Calls Try.prog 7 #[v0, v1] w fun e w' => e = .returned (.bool true) ∧ Below w.heap.size w w' := by
  obtain ⟨a0, c0, m0, A, rfl, kA, hA, fA⟩ := few_cut h0 l0 12 (by omega) 12 rfl
  obtain ⟨a1, c1, m1, B, rfl, kB, hB, fB⟩ := few_cut h1 l1 12 (by omega) 12 rfl
  have UA := Lib.hid hA
  have UB := Lib.hid hB
  have FA := Lib.hid fA
  have FB := Lib.hid fB
  have GC := Lib.hid (fun x y w' (hx : NN A x w') (hy : NN B y w') => gcd_fit (K := 12) (by omega) kA kB hx hy)
  have RG := Lib.hid (fun x y w' (hx : AN A x w') (hy : AN B y w') => rgcd_fit (K := 12) (by omega) kA kB hx hy)
  obtain ⟨G, hG⟩ : ∃ G, Nat.gcd A B = G := ⟨_, rfl⟩
  rw [hG] at GC RG
  clear h0 h1 l0 l1 hA hB fA fB
  by_cases hG0 : G = 0
  · have hA0 : A = 0 := Nat.eq_zero_of_gcd_eq_zero_left (hG.trans hG0)
    have hB0 : B = 0 := Nat.eq_zero_of_gcd_eq_zero_right (hG.trans hG0)
    subst hA0 hB0 hG0
    clear hG kA kB
    go_enter Try.func7, Try.ntmps7
    have HW : Hid (Below w.heap.size w w) := Lib.hid (Below.refl _ _)
    go_wp2_with fail
    refine (FA.out _).mono ?_
    rintro e w' ⟨rfl, hw'⟩
    subst hw'
    go_wp2_with fail
    refine (FB.out _).mono ?_
    rintro e w' ⟨rfl, hw'⟩
    subst hw'
    clear FA FB
    go_wp2_with fail
    refine (own_an UA.out).mono ?_
    rintro e wn ⟨x1, rfl, hx, hb⟩
    replace UA := Lib.hid (UA.out.below hb)
    replace UB := Lib.hid (UB.out.below hb)
    replace HW := Lib.hid (HW.out.trans (hb.mono HW.out.size))
    have Nx1 := Lib.hid (hx)
    clear hb
    clear hx
    go_wp2_with fail
    refine (own_an UB.out).mono ?_
    rintro e wn ⟨x2, rfl, hx, hb⟩
    replace UA := Lib.hid (UA.out.below hb)
    replace UB := Lib.hid (UB.out.below hb)
    replace Nx1 := Lib.hid (Nx1.out.below hb)
    replace HW := Lib.hid (HW.out.trans (hb.mono HW.out.size))
    have Nx2 := Lib.hid (hx)
    clear hb
    clear hx
    go_wp2_with fail
    refine (GC.out _ _ _ Nx1.out Nx2.out).mono ?_
    rintro e wn ⟨x3, rfl, hx, -, hb⟩
    replace hx := hx rfl
    replace UA := Lib.hid (UA.out.below hb)
    replace UB := Lib.hid (UB.out.below hb)
    replace HW := Lib.hid (HW.out.trans (hb.mono HW.out.size))
    have PG := Lib.hid (hx)
    clear hb Nx1 Nx2
    clear hx
    go_wp2_with fail
    refine (RG.out _ _ _ UA.out UB.out).mono ?_
    rintro e wn ⟨x4, rfl, hx, -, hb⟩
    replace hx := hx rfl
    replace UA := Lib.hid (UA.out.below hb)
    replace UB := Lib.hid (UB.out.below hb)
    replace PG := Lib.hid (PG.out.below hb)
    replace HW := Lib.hid (HW.out.trans (hb.mono HW.out.size))
    have PR := Lib.hid (hx)
    clear hb
    clear hx
    go_wp2_with fail
    refine (same_nn PG.out PR.out.pv).mono ?_
    rintro e wn ⟨rfl, hb⟩
    replace UA := Lib.hid (UA.out.below hb)
    replace UB := Lib.hid (UB.out.below hb)
    replace PG := Lib.hid (PG.out.below hb)
    replace HW := Lib.hid (HW.out.trans (hb.mono HW.out.size))
    clear hb PR
    obtain ⟨ag, cg, rfl⟩ := pv_none PG.out
    clear PG
    go_wp2_with fail
    refine (plain_an UA.out).mono ?_
    rintro e wn ⟨x5, rfl, hx, hb⟩
    obtain ⟨a5, c5, rfl⟩ := pv_none hx.pv
    clear hx
    replace UA := Lib.hid (UA.out.below hb)
    replace UB := Lib.hid (UB.out.below hb)
    replace HW := Lib.hid (HW.out.trans (hb.mono HW.out.size))
    clear hb
    go_wp2_with fail
    refine (plain_an UB.out).mono ?_
    rintro e wn ⟨x6, rfl, hx, hb⟩
    obtain ⟨a6, c6, rfl⟩ := pv_none hx.pv
    clear hx
    replace UA := Lib.hid (UA.out.below hb)
    replace UB := Lib.hid (UB.out.below hb)
    replace HW := Lib.hid (HW.out.trans (hb.mono HW.out.size))
    clear hb
    go_wp2_with fail
    refine (lives_any _).mono ?_
    rintro e wn ⟨rfl, hb⟩
    replace UA := Lib.hid (UA.out.below hb)
    replace UB := Lib.hid (UB.out.below hb)
    replace HW := Lib.hid (HW.out.trans (hb.mono HW.out.size))
    clear hb
    go_wp2
    go_ret
    exact ⟨rfl, HW.out⟩
  · have hGp : 0 < G := by omega
    have kG : G < 4294967296 ^ 12 := by
      by_cases e : A = 0
      · have : G = B := by rw [← hG, e, Nat.gcd_zero_left]
        rw [this]; exact kB
      · exact Nat.lt_of_le_of_lt (by rw [← hG]; exact Nat.gcd_le_left _ (by omega)) kA
    have mA : A % G = 0 := Nat.mod_eq_zero_of_dvd (by rw [← hG]; exact Nat.gcd_dvd_left A B)
    have mB : B % G = 0 := Nat.mod_eq_zero_of_dvd (by rw [← hG]; exact Nat.gcd_dvd_right A B)
    have DA := Lib.hid (fun x y w' (hx : NN A x w') (hy : NN G y w') => divmod_fit (K := 12) (by omega) kA kG hGp hx hy)
    have DB := Lib.hid (fun x y w' (hx : NN B x w') (hy : NN G y w') => divmod_fit (K := 12) (by omega) kB kG hGp hx hy)
    rw [mA] at DA
    rw [mB] at DB
    have HG0 := Lib.hid hG0
    by_cases hB0 : B = 0
    · have hGA : G = A := by rw [← hG, hB0, Nat.gcd_zero_right]
      subst hB0
      have HGA := Lib.hid hGA
      clear hG kA kB hGp kG mA mB hGA hG0
      go_enter Try.func7, Try.ntmps7
      have HW : Hid (Below w.heap.size w w) := Lib.hid (Below.refl _ _)
      go_wp2_with fail
      refine (FA.out _).mono ?_
      rintro e w' ⟨rfl, hw'⟩
      subst hw'
      go_wp2_with fail
      refine (FB.out _).mono ?_
      rintro e w' ⟨rfl, hw'⟩
      subst hw'
      clear FA FB
      go_wp2_with fail
      refine (own_an UA.out).mono ?_
      rintro e wn ⟨x1, rfl, hx, hb⟩
      replace UA := Lib.hid (UA.out.below hb)
      replace UB := Lib.hid (UB.out.below hb)
      replace HW := Lib.hid (HW.out.trans (hb.mono HW.out.size))
      have Nx1 := Lib.hid (hx)
      clear hb
      clear hx
      go_wp2_with fail
      refine (own_an UB.out).mono ?_
      rintro e wn ⟨x2, rfl, hx, hb⟩
      replace UA := Lib.hid (UA.out.below hb)
      replace UB := Lib.hid (UB.out.below hb)
      replace Nx1 := Lib.hid (Nx1.out.below hb)
      replace HW := Lib.hid (HW.out.trans (hb.mono HW.out.size))
      have Nx2 := Lib.hid (hx)
      clear hb
      clear hx
      go_wp2_with fail
      refine (GC.out _ _ _ Nx1.out Nx2.out).mono ?_
      rintro e wn ⟨x3, rfl, hx, -, hb⟩
      replace hx := hx rfl
      replace UA := Lib.hid (UA.out.below hb)
      replace UB := Lib.hid (UB.out.below hb)
      replace HW := Lib.hid (HW.out.trans (hb.mono HW.out.size))
      have PG := Lib.hid (hx)
      clear hb Nx1 Nx2
      clear hx
      go_wp2_with fail
      refine (RG.out _ _ _ UA.out UB.out).mono ?_
      rintro e wn ⟨x4, rfl, hx, -, hb⟩
      replace hx := hx rfl
      replace UA := Lib.hid (UA.out.below hb)
      replace UB := Lib.hid (UB.out.below hb)
      replace PG := Lib.hid (PG.out.below hb)
      replace HW := Lib.hid (HW.out.trans (hb.mono HW.out.size))
      have PR := Lib.hid (hx)
      clear hb
      clear hx
      go_wp2_with fail
      refine (same_nn PG.out PR.out.pv).mono ?_
      rintro e wn ⟨rfl, hb⟩
      replace UA := Lib.hid (UA.out.below hb)
      replace UB := Lib.hid (UB.out.below hb)
      replace PG := Lib.hid (PG.out.below hb)
      replace HW := Lib.hid (HW.out.trans (hb.mono HW.out.size))
      clear hb PR
      obtain ⟨ag, ng, cg, rfl, hng⟩ := pv_pos PG.out HG0.out
      have hng1 : ((ng : Int) == 0) = false := by simp; omega
      clear hng
      go_wp2_with fail
      refine (own_an UA.out).mono ?_
      rintro e wn ⟨x5, rfl, hx, hb⟩
      replace UA := Lib.hid (UA.out.below hb)
      replace UB := Lib.hid (UB.out.below hb)
      replace PG := Lib.hid (PG.out.below hb)
      replace HW := Lib.hid (HW.out.trans (hb.mono HW.out.size))
      have Nx5 := Lib.hid (hx)
      clear hb
      clear hx
      go_wp2_with fail
      refine (DA.out _ _ _ Nx5.out PG.out.nn).mono ?_
      rintro e wn ⟨x6, x7, rfl, hx, -, hb⟩
      obtain ⟨a7, c7, rfl⟩ := pv_none (hx rfl).2
      clear hx
      replace UA := Lib.hid (UA.out.below hb)
      replace UB := Lib.hid (UB.out.below hb)
      replace PG := Lib.hid (PG.out.below hb)
      replace HW := Lib.hid (HW.out.trans (hb.mono HW.out.size))
      clear hb Nx5
      go_wp2_with fail
      refine (own_an UB.out).mono ?_
      rintro e wn ⟨x8, rfl, hx, hb⟩
      replace UA := Lib.hid (UA.out.below hb)
      replace UB := Lib.hid (UB.out.below hb)
      replace PG := Lib.hid (PG.out.below hb)
      replace HW := Lib.hid (HW.out.trans (hb.mono HW.out.size))
      have Nx8 := Lib.hid (hx)
      clear hb
      clear hx
      go_wp2_with fail
      refine (DB.out _ _ _ Nx8.out PG.out.nn).mono ?_
      rintro e wn ⟨x9, x10, rfl, hx, -, hb⟩
      obtain ⟨a10, c10, rfl⟩ := pv_none (hx rfl).2
      clear hx
      replace UA := Lib.hid (UA.out.below hb)
      replace UB := Lib.hid (UB.out.below hb)
      replace PG := Lib.hid (PG.out.below hb)
      replace HW := Lib.hid (HW.out.trans (hb.mono HW.out.size))
      clear hb Nx8
      go_wp2_with fail
      refine (plain_an UB.out).mono ?_
      rintro e wn ⟨x11, rfl, hx, hb⟩
      obtain ⟨a11, c11, rfl⟩ := pv_none hx.pv
      clear hx
      replace UA := Lib.hid (UA.out.below hb)
      replace UB := Lib.hid (UB.out.below hb)
      replace PG := Lib.hid (PG.out.below hb)
      replace HW := Lib.hid (HW.out.trans (hb.mono HW.out.size))
      clear hb
      go_wp2_with fail
      refine (plain_an UA.out).mono ?_
      rintro e wn ⟨x12, rfl, hx, hb⟩
      rw [← HGA.out] at hx
      replace UA := Lib.hid (UA.out.below hb)
      replace UB := Lib.hid (UB.out.below hb)
      replace PG := Lib.hid (PG.out.below hb)
      replace HW := Lib.hid (HW.out.trans (hb.mono HW.out.size))
      have P12 := Lib.hid (hx)
      clear hb
      clear hx
      go_wp2_with fail
      refine (same_nn PG.out P12.out.pv).mono ?_
      rintro e wn ⟨rfl, hb⟩
      replace UA := Lib.hid (UA.out.below hb)
      replace UB := Lib.hid (UB.out.below hb)
      replace HW := Lib.hid (HW.out.trans (hb.mono HW.out.size))
      clear hb PG P12
      go_wp2_with fail
      refine (lives_any _).mono ?_
      rintro e wn ⟨rfl, hb⟩
      replace UA := Lib.hid (UA.out.below hb)
      replace UB := Lib.hid (UB.out.below hb)
      replace HW := Lib.hid (HW.out.trans (hb.mono HW.out.size))
      clear hb
      go_wp2
      go_ret
      exact ⟨rfl, HW.out⟩
    · have DM := Lib.hid (fun x y w' (hx : NN A x w') (hy : NN B y w') => divmod_fit (K := 12) (by omega) kA kB (by omega) hx hy)
      have GT := Lib.hid (fun x y w' (hx : NN B x w') (hy : NN (A % B) y w') => gcd_fit (K := 12) (by omega) kB (Nat.lt_of_le_of_lt (Nat.mod_le _ _) kA) hx hy)
      rw [gcd_step, hG] at GT
      have HB0 := Lib.hid hB0
      clear hG kA kB hGp kG mA mB hG0 hB0
      go_enter Try.func7, Try.ntmps7
      have HW : Hid (Below w.heap.size w w) := Lib.hid (Below.refl _ _)
      go_wp2_with fail
      refine (FA.out _).mono ?_
      rintro e w' ⟨rfl, hw'⟩
      subst hw'
      go_wp2_with fail
      refine (FB.out _).mono ?_
      rintro e w' ⟨rfl, hw'⟩
      subst hw'
      clear FA FB
      go_wp2_with fail
      refine (own_an UA.out).mono ?_
      rintro e wn ⟨x1, rfl, hx, hb⟩
      replace UA := Lib.hid (UA.out.below hb)
      replace UB := Lib.hid (UB.out.below hb)
      replace HW := Lib.hid (HW.out.trans (hb.mono HW.out.size))
      have Nx1 := Lib.hid (hx)
      clear hb
      clear hx
      go_wp2_with fail
      refine (own_an UB.out).mono ?_
      rintro e wn ⟨x2, rfl, hx, hb⟩
      replace UA := Lib.hid (UA.out.below hb)
      replace UB := Lib.hid (UB.out.below hb)
      replace Nx1 := Lib.hid (Nx1.out.below hb)
      replace HW := Lib.hid (HW.out.trans (hb.mono HW.out.size))
      have Nx2 := Lib.hid (hx)
      clear hb
      clear hx
      go_wp2_with fail
      refine (GC.out _ _ _ Nx1.out Nx2.out).mono ?_
      rintro e wn ⟨x3, rfl, hx, -, hb⟩
      replace hx := hx rfl
      replace UA := Lib.hid (UA.out.below hb)
      replace UB := Lib.hid (UB.out.below hb)
      replace HW := Lib.hid (HW.out.trans (hb.mono HW.out.size))
      have PG := Lib.hid (hx)
      clear hb Nx1 Nx2
      clear hx
      go_wp2_with fail
      refine (RG.out _ _ _ UA.out UB.out).mono ?_
      rintro e wn ⟨x4, rfl, hx, -, hb⟩
      replace hx := hx rfl
      replace UA := Lib.hid (UA.out.below hb)
      replace UB := Lib.hid (UB.out.below hb)
      replace PG := Lib.hid (PG.out.below hb)
      replace HW := Lib.hid (HW.out.trans (hb.mono HW.out.size))
      have PR := Lib.hid (hx)
      clear hb
      clear hx
      go_wp2_with fail
      refine (same_nn PG.out PR.out.pv).mono ?_
      rintro e wn ⟨rfl, hb⟩
      replace UA := Lib.hid (UA.out.below hb)
      replace UB := Lib.hid (UB.out.below hb)
      replace PG := Lib.hid (PG.out.below hb)
      replace HW := Lib.hid (HW.out.trans (hb.mono HW.out.size))
      clear hb PR
      obtain ⟨ag, ng, cg, rfl, hng⟩ := pv_pos PG.out HG0.out
      have hng1 : ((ng : Int) == 0) = false := by simp; omega
      clear hng
      go_wp2_with fail
      refine (own_an UA.out).mono ?_
      rintro e wn ⟨x5, rfl, hx, hb⟩
      replace UA := Lib.hid (UA.out.below hb)
      replace UB := Lib.hid (UB.out.below hb)
      replace PG := Lib.hid (PG.out.below hb)
      replace HW := Lib.hid (HW.out.trans (hb.mono HW.out.size))
      have Nx5 := Lib.hid (hx)
      clear hb
      clear hx
      go_wp2_with fail
      refine (DA.out _ _ _ Nx5.out PG.out.nn).mono ?_
      rintro e wn ⟨x6, x7, rfl, hx, -, hb⟩
      obtain ⟨a7, c7, rfl⟩ := pv_none (hx rfl).2
      clear hx
      replace UA := Lib.hid (UA.out.below hb)
      replace UB := Lib.hid (UB.out.below hb)
      replace PG := Lib.hid (PG.out.below hb)
      replace HW := Lib.hid (HW.out.trans (hb.mono HW.out.size))
      clear hb Nx5
      go_wp2_with fail
      refine (own_an UB.out).mono ?_
      rintro e wn ⟨x8, rfl, hx, hb⟩
      replace UA := Lib.hid (UA.out.below hb)
      replace UB := Lib.hid (UB.out.below hb)
      replace PG := Lib.hid (PG.out.below hb)
      replace HW := Lib.hid (HW.out.trans (hb.mono HW.out.size))
      have Nx8 := Lib.hid (hx)
      clear hb
      clear hx
      go_wp2_with fail
      refine (DB.out _ _ _ Nx8.out PG.out.nn).mono ?_
      rintro e wn ⟨x9, x10, rfl, hx, -, hb⟩
      obtain ⟨a10, c10, rfl⟩ := pv_none (hx rfl).2
      clear hx
      replace UA := Lib.hid (UA.out.below hb)
      replace UB := Lib.hid (UB.out.below hb)
      replace PG := Lib.hid (PG.out.below hb)
      replace HW := Lib.hid (HW.out.trans (hb.mono HW.out.size))
      clear hb Nx8
      go_wp2_with fail
      refine (plain_an UB.out).mono ?_
      rintro e wn ⟨x11, rfl, hx, hb⟩
      obtain ⟨a11, n11, c11, rfl, hn11⟩ := pv_pos hx.pv HB0.out
      have hn12 : ((n11 : Int) == 0) = false := by simp; omega
      clear hx hn11
      replace UA := Lib.hid (UA.out.below hb)
      replace UB := Lib.hid (UB.out.below hb)
      replace PG := Lib.hid (PG.out.below hb)
      replace HW := Lib.hid (HW.out.trans (hb.mono HW.out.size))
      clear hb
      go_wp2_with fail
      refine (own_an UA.out).mono ?_
      rintro e wn ⟨x12, rfl, hx, hb⟩
      replace UA := Lib.hid (UA.out.below hb)
      replace UB := Lib.hid (UB.out.below hb)
      replace PG := Lib.hid (PG.out.below hb)
      replace HW := Lib.hid (HW.out.trans (hb.mono HW.out.size))
      have Nx12 := Lib.hid (hx)
      clear hb
      clear hx
      go_wp2_with fail
      refine (own_an UB.out).mono ?_
      rintro e wn ⟨x13, rfl, hx, hb⟩
      replace UA := Lib.hid (UA.out.below hb)
      replace UB := Lib.hid (UB.out.below hb)
      replace PG := Lib.hid (PG.out.below hb)
      replace Nx12 := Lib.hid (Nx12.out.below hb)
      replace HW := Lib.hid (HW.out.trans (hb.mono HW.out.size))
      have Nx13 := Lib.hid (hx)
      clear hb
      clear hx
      go_wp2_with fail
      refine (DM.out _ _ _ Nx12.out Nx13.out).mono ?_
      rintro e wn ⟨x14, x15, rfl, hx, -, hb⟩
      replace hx := (hx rfl).2
      replace UA := Lib.hid (UA.out.below hb)
      replace UB := Lib.hid (UB.out.below hb)
      replace PG := Lib.hid (PG.out.below hb)
      replace HW := Lib.hid (HW.out.trans (hb.mono HW.out.size))
      have P15 := Lib.hid (hx)
      clear hb Nx12 Nx13
      clear hx
      go_wp2_with fail
      refine (own_an UB.out).mono ?_
      rintro e wn ⟨x16, rfl, hx, hb⟩
      replace UA := Lib.hid (UA.out.below hb)
      replace UB := Lib.hid (UB.out.below hb)
      replace PG := Lib.hid (PG.out.below hb)
      replace P15 := Lib.hid (P15.out.below hb)
      replace HW := Lib.hid (HW.out.trans (hb.mono HW.out.size))
      have Nx16 := Lib.hid (hx)
      clear hb
      clear hx
      go_wp2_with fail
      refine (GT.out _ _ _ Nx16.out P15.out.nn).mono ?_
      rintro e wn ⟨x17, rfl, hx, -, hb⟩
      replace hx := hx rfl
      replace UA := Lib.hid (UA.out.below hb)
      replace UB := Lib.hid (UB.out.below hb)
      replace PG := Lib.hid (PG.out.below hb)
      replace HW := Lib.hid (HW.out.trans (hb.mono HW.out.size))
      have P17 := Lib.hid (hx)
      clear hb Nx16 P15
      clear hx
      go_wp2_with fail
      refine (same_nn P17.out PG.out).mono ?_
      rintro e wn ⟨rfl, hb⟩
      replace UA := Lib.hid (UA.out.below hb)
      replace UB := Lib.hid (UB.out.below hb)
      replace HW := Lib.hid (HW.out.trans (hb.mono HW.out.size))
      clear hb P17 PG
      go_wp2_with fail
      refine (lives_any _).mono ?_
      rintro e wn ⟨rfl, hb⟩
      replace UA := Lib.hid (UA.out.below hb)
      replace UB := Lib.hid (UB.out.below hb)
      replace HW := Lib.hid (HW.out.trans (hb.mono HW.out.size))
      clear hb
      go_wp2
      go_ret
      exact ⟨rfl, HW.out⟩
end Go.Proofs.Ytgegkffigjogcaa

/- append of so many noughts onto a row of one's own; own, its row told. (With it, merged: NRing · NDivMod · NRPlain · Inv · NShifts · NZeros.) -/
import Derived.Test.YtgegkffigjogcaaM4
import Derived.Test.YtgegkffigjogcaaM3
import Derived.Still
import Derived.WalkKit
import Derived.Lib.AppendZerosOnto
namespace Go.Proofs.Ytgegkffigjogcaa
open Go.RowKit

theorem fit_up {B k j x : Nat} (hB : 0 < B) (h : k ≤ j) (hx : x < B ^ k) : x < B ^ j := Nat.lt_of_lt_of_le hx (Nat.pow_le_pow_right hB h)
theorem fit_add {B k x y : Nat} (hB : 2 ≤ B) (hx : x < B ^ k) (hy : y < B ^ k) : x + y < B ^ (k + 1) := by
  rw [Nat.pow_succ]
  have := Nat.mul_le_mul_left (B ^ k) hB
  omega
theorem fit_mul {B k j x y : Nat} (hx : x < B ^ k) (hy : y < B ^ j) : x * y < B ^ (k + j) := by
  rw [Nat.pow_add]
  exact Nat.mul_lt_mul_of_lt_of_lt hx hy
theorem lim_is2 : ∃ K : Nat, K = 1024 ∧ LIM = 4294967296 ^ K := ⟨1024, rfl, by unfold LIM; rfl⟩
theorem cd_fit {k x : Nat} (hk : k ≤ 1024) (h : x < 4294967296 ^ k) : cdN x = 0 := by
  obtain ⟨K, hK, e⟩ := lim_is2
  have h2 := fit_up (j := K) (by omega) (by omega) h
  unfold cdN
  rw [e, if_neg (Nat.not_le.2 h2)]
theorem add_fit {A B k : Nat} (hk : k < 1024) (hA : A < 4294967296 ^ k) (hB : B < 4294967296 ^ k) {va vb' : Value} {w : World} (h0 : NN A va w) (h1 : NN B vb' w) : Calls Try.prog 12 #[va, vb'] w (Ans 0 (A + B) w) := by
  have h := add_api h0 h1
  have e2 : cd2 A B = 0 := by unfold cd2; rw [if_pos (cd_fit (by omega) hA), cd_fit (by omega) hB]
  have e : cdAdd A B = 0 := by unfold cdAdd; rw [if_pos e2, cd_fit (k := k + 1) (by omega) (fit_add (by omega) hA hB)]
  rwa [e] at h
theorem mul_fit {A B k j : Nat} (hk : k + j < 1024) (hA : A < 4294967296 ^ k) (hB : B < 4294967296 ^ j) {va vb' : Value} {w : World} (h0 : NN A va w) (h1 : NN B vb' w) : Calls Try.prog 19 #[va, vb'] w (Ans 0 (A * B) w) := by
  have h := mul_api h0 h1
  have e2 : cd2 A B = 0 := by unfold cd2; rw [if_pos (cd_fit (by omega) hA), cd_fit (by omega) hB]
  have e : cdMul A B = 0 := by unfold cdMul; rw [if_pos e2, cd_fit (k := k + j) (by omega) (fit_mul hA hB)]
  rwa [e] at h
set_option maxRecDepth 100000 in
set_option maxHeartbeats 4000000 in
theorem ring_any {w : World} {v0 v1 v2 : Value} {n0 n1 n2 : Nat} {f0 f1 f2 : Nat → Nat} (h0 : ArgN w v0 n0 f0) (h1 : ArgN w v1 n1 f1) (h2 : ArgN w v2 n2 f2)
    (l0 : ∀ j, j < n0 → f0 j < 4294967296) (l1 : ∀ j, j < n1 → f1 j < 4294967296) (l2 : ∀ j, j < n2 → f2 j < 4294967296) :
    Calls Try.prog 9 #[v0, v1, v2] w fun e w' => e = .returned (.bool true) ∧ Below w.heap.size w w' := by
  have F0 := Lib.hid (few_any h0 40 (by omega))
  have F1 := Lib.hid (few_any h1 40 (by omega))
  have F2 := Lib.hid (few_any h2 40 (by omega))
  obtain ⟨m0, e0⟩ : ∃ m, min n0 40 = m := ⟨_, rfl⟩
  obtain ⟨m1, e1⟩ : ∃ m, min n1 40 = m := ⟨_, rfl⟩
  obtain ⟨m2, e2⟩ : ∃ m, min n2 40 = m := ⟨_, rfl⟩
  rw [e0] at F0
  rw [e1] at F1
  rw [e2] at F2
  have OW0 := Lib.hid (fun u w' (hu : ArgN w' u m0 f0) => own_any hu (by omega) (fun j hj => l0 j (by omega)))
  have OW1 := Lib.hid (fun u w' (hu : ArgN w' u m1 f1) => own_any hu (by omega) (fun j hj => l1 j (by omega)))
  have OW2 := Lib.hid (fun u w' (hu : ArgN w' u m2 f2) => own_any hu (by omega) (fun j hj => l2 j (by omega)))
  have fa : vb 4294967296 f0 m0 < 4294967296 ^ 40 := fit_up (by omega) (by omega) (vb_lt (n := m0) (fun j hj => l0 j (by omega)))
  have fb : vb 4294967296 f1 m1 < 4294967296 ^ 40 := fit_up (by omega) (by omega) (vb_lt (n := m1) (fun j hj => l1 j (by omega)))
  have fc : vb 4294967296 f2 m2 < 4294967296 ^ 40 := fit_up (by omega) (by omega) (vb_lt (n := m2) (fun j hj => l2 j (by omega)))
  obtain ⟨A, eA⟩ : ∃ A, vb 4294967296 f0 m0 = A := ⟨_, rfl⟩
  obtain ⟨B, eB⟩ : ∃ B, vb 4294967296 f1 m1 = B := ⟨_, rfl⟩
  obtain ⟨C, eC⟩ : ∃ C, vb 4294967296 f2 m2 = C := ⟨_, rfl⟩
  rw [eA] at OW0 fa
  rw [eB] at OW1 fb
  rw [eC] at OW2 fc
  clear e0 e1 e2 eA eB eC h0 h1 h2 l0 l1 l2
  have fac := fit_mul fa fc
  have fbc := fit_mul fb fc
  have fs := fit_add (by omega) fa fb
  have AD01 := Lib.hid (fun x y w' (hx : NN A x w') (hy : NN B y w') => add_fit (by omega) fa fb hx hy)
  have AD10 := Lib.hid (fun x y w' (hx : NN B x w') (hy : NN A y w') => add_fit (by omega) fb fa hx hy)
  have MU01 := Lib.hid (fun x y w' (hx : NN A x w') (hy : NN B y w') => mul_fit (by omega) fa fb hx hy)
  have MU10 := Lib.hid (fun x y w' (hx : NN B x w') (hy : NN A y w') => mul_fit (by omega) fb fa hx hy)
  have MUS := Lib.hid (fun x y w' (hx : NN (A + B) x w') (hy : NN C y w') => mul_fit (by omega) fs fc hx hy)
  have MU02 := Lib.hid (fun x y w' (hx : NN A x w') (hy : NN C y w') => mul_fit (by omega) fa fc hx hy)
  have MU12 := Lib.hid (fun x y w' (hx : NN B x w') (hy : NN C y w') => mul_fit (by omega) fb fc hx hy)
  have ADM := Lib.hid (fun x y w' (hx : NN (A * C) x w') (hy : NN (B * C) y w') => add_fit (by omega) fac fbc hx hy)
  clear fa fb fc fac fbc fs
  have HW : Hid (Below w.heap.size w w) := Lib.hid (Below.refl _ _)
  go_enter Try.func9, Try.ntmps9
  go_wp2_with fail
  refine F0.out.mono ?_
  rintro e w' ⟨u0, rfl, hu, rfl⟩
  have U0 := Lib.hid hu
  clear hu F0
  go_wp2_with fail
  refine F1.out.mono ?_
  rintro e w' ⟨u1, rfl, hu, rfl⟩
  have U1 := Lib.hid hu
  clear hu F1
  go_wp2_with fail
  refine F2.out.mono ?_
  rintro e w' ⟨u2, rfl, hu, rfl⟩
  have U2 := Lib.hid hu
  clear hu F2
  go_wp2_with fail
  refine (OW0.out _ _ U0.out).mono ?_
  rintro e w1 ⟨x1, rfl, hx, hb⟩
  replace U0 := Lib.hid (U0.out.below hb)
  replace U1 := Lib.hid (U1.out.below hb)
  replace U2 := Lib.hid (U2.out.below hb)
  replace HW := Lib.hid (HW.out.trans (hb.mono HW.out.size))
  have OA := Lib.hid hx
  clear hb hx
  go_wp2_with fail
  refine (OW1.out _ _ U1.out).mono ?_
  rintro e w2 ⟨x2, rfl, hx, hb⟩
  replace U0 := Lib.hid (U0.out.below hb)
  replace U1 := Lib.hid (U1.out.below hb)
  replace U2 := Lib.hid (U2.out.below hb)
  replace OA := Lib.hid (OA.out.below hb)
  replace HW := Lib.hid (HW.out.trans (hb.mono HW.out.size))
  have OB := Lib.hid hx
  clear hb hx
  go_wp2_with fail
  refine (AD01.out _ _ _ OA.out OB.out).mono ?_
  rintro e w3 ⟨x3, rfl, hx', -, hb⟩
  have hx := hx' rfl
  clear hx'
  replace U0 := Lib.hid (U0.out.below hb)
  replace U1 := Lib.hid (U1.out.below hb)
  replace U2 := Lib.hid (U2.out.below hb)
  replace OA := Lib.hid (OA.out.below hb)
  replace OB := Lib.hid (OB.out.below hb)
  replace HW := Lib.hid (HW.out.trans (hb.mono HW.out.size))
  have P7 := Lib.hid hx
  clear hb hx
  clear OA
  clear OB
  go_wp2_with fail
  refine (OW1.out _ _ U1.out).mono ?_
  rintro e w4 ⟨x4, rfl, hx, hb⟩
  replace U0 := Lib.hid (U0.out.below hb)
  replace U1 := Lib.hid (U1.out.below hb)
  replace U2 := Lib.hid (U2.out.below hb)
  replace P7 := Lib.hid (P7.out.below hb)
  replace HW := Lib.hid (HW.out.trans (hb.mono HW.out.size))
  have OA := Lib.hid hx
  clear hb hx
  go_wp2_with fail
  refine (OW0.out _ _ U0.out).mono ?_
  rintro e w5 ⟨x5, rfl, hx, hb⟩
  replace U0 := Lib.hid (U0.out.below hb)
  replace U1 := Lib.hid (U1.out.below hb)
  replace U2 := Lib.hid (U2.out.below hb)
  replace P7 := Lib.hid (P7.out.below hb)
  replace OA := Lib.hid (OA.out.below hb)
  replace HW := Lib.hid (HW.out.trans (hb.mono HW.out.size))
  have OB := Lib.hid hx
  clear hb hx
  go_wp2_with fail
  refine (AD10.out _ _ _ OA.out OB.out).mono ?_
  rintro e w6 ⟨x6, rfl, hx', -, hb⟩
  have hx := hx' rfl
  clear hx'
  replace U0 := Lib.hid (U0.out.below hb)
  replace U1 := Lib.hid (U1.out.below hb)
  replace U2 := Lib.hid (U2.out.below hb)
  replace P7 := Lib.hid (P7.out.below hb)
  replace OA := Lib.hid (OA.out.below hb)
  replace OB := Lib.hid (OB.out.below hb)
  replace HW := Lib.hid (HW.out.trans (hb.mono HW.out.size))
  have P9 := Lib.hid hx
  clear hb hx
  clear OA
  clear OB
  go_wp2_with fail
  refine (OW0.out _ _ U0.out).mono ?_
  rintro e w7 ⟨x7, rfl, hx, hb⟩
  replace U0 := Lib.hid (U0.out.below hb)
  replace U1 := Lib.hid (U1.out.below hb)
  replace U2 := Lib.hid (U2.out.below hb)
  replace P7 := Lib.hid (P7.out.below hb)
  replace P9 := Lib.hid (P9.out.below hb)
  replace HW := Lib.hid (HW.out.trans (hb.mono HW.out.size))
  have OA := Lib.hid hx
  clear hb hx
  go_wp2_with fail
  refine (OW1.out _ _ U1.out).mono ?_
  rintro e w8 ⟨x8, rfl, hx, hb⟩
  replace U0 := Lib.hid (U0.out.below hb)
  replace U1 := Lib.hid (U1.out.below hb)
  replace U2 := Lib.hid (U2.out.below hb)
  replace P7 := Lib.hid (P7.out.below hb)
  replace P9 := Lib.hid (P9.out.below hb)
  replace OA := Lib.hid (OA.out.below hb)
  replace HW := Lib.hid (HW.out.trans (hb.mono HW.out.size))
  have OB := Lib.hid hx
  clear hb hx
  go_wp2_with fail
  refine (MU01.out _ _ _ OA.out OB.out).mono ?_
  rintro e w9 ⟨x9, rfl, hx', -, hb⟩
  have hx := hx' rfl
  clear hx'
  replace U0 := Lib.hid (U0.out.below hb)
  replace U1 := Lib.hid (U1.out.below hb)
  replace U2 := Lib.hid (U2.out.below hb)
  replace P7 := Lib.hid (P7.out.below hb)
  replace P9 := Lib.hid (P9.out.below hb)
  replace OA := Lib.hid (OA.out.below hb)
  replace OB := Lib.hid (OB.out.below hb)
  replace HW := Lib.hid (HW.out.trans (hb.mono HW.out.size))
  have P11 := Lib.hid hx
  clear hb hx
  clear OA
  clear OB
  go_wp2_with fail
  refine (OW1.out _ _ U1.out).mono ?_
  rintro e w10 ⟨x10, rfl, hx, hb⟩
  replace U0 := Lib.hid (U0.out.below hb)
  replace U1 := Lib.hid (U1.out.below hb)
  replace U2 := Lib.hid (U2.out.below hb)
  replace P7 := Lib.hid (P7.out.below hb)
  replace P9 := Lib.hid (P9.out.below hb)
  replace P11 := Lib.hid (P11.out.below hb)
  replace HW := Lib.hid (HW.out.trans (hb.mono HW.out.size))
  have OA := Lib.hid hx
  clear hb hx
  go_wp2_with fail
  refine (OW0.out _ _ U0.out).mono ?_
  rintro e w11 ⟨x11, rfl, hx, hb⟩
  replace U0 := Lib.hid (U0.out.below hb)
  replace U1 := Lib.hid (U1.out.below hb)
  replace U2 := Lib.hid (U2.out.below hb)
  replace P7 := Lib.hid (P7.out.below hb)
  replace P9 := Lib.hid (P9.out.below hb)
  replace P11 := Lib.hid (P11.out.below hb)
  replace OA := Lib.hid (OA.out.below hb)
  replace HW := Lib.hid (HW.out.trans (hb.mono HW.out.size))
  have OB := Lib.hid hx
  clear hb hx
  go_wp2_with fail
  refine (MU10.out _ _ _ OA.out OB.out).mono ?_
  rintro e w12 ⟨x12, rfl, hx', -, hb⟩
  have hx := hx' rfl
  clear hx'
  replace U0 := Lib.hid (U0.out.below hb)
  replace U1 := Lib.hid (U1.out.below hb)
  replace U2 := Lib.hid (U2.out.below hb)
  replace P7 := Lib.hid (P7.out.below hb)
  replace P9 := Lib.hid (P9.out.below hb)
  replace P11 := Lib.hid (P11.out.below hb)
  replace OA := Lib.hid (OA.out.below hb)
  replace OB := Lib.hid (OB.out.below hb)
  replace HW := Lib.hid (HW.out.trans (hb.mono HW.out.size))
  have P13 := Lib.hid hx
  clear hb hx
  clear OA
  clear OB
  go_wp2_with fail
  refine (OW2.out _ _ U2.out).mono ?_
  rintro e w13 ⟨x13, rfl, hx, hb⟩
  replace U0 := Lib.hid (U0.out.below hb)
  replace U1 := Lib.hid (U1.out.below hb)
  replace U2 := Lib.hid (U2.out.below hb)
  replace P7 := Lib.hid (P7.out.below hb)
  replace P9 := Lib.hid (P9.out.below hb)
  replace P11 := Lib.hid (P11.out.below hb)
  replace P13 := Lib.hid (P13.out.below hb)
  replace HW := Lib.hid (HW.out.trans (hb.mono HW.out.size))
  have OA := Lib.hid hx
  clear hb hx
  go_wp2_with fail
  refine (MUS.out _ _ _ P7.out.nn OA.out).mono ?_
  rintro e w14 ⟨x14, rfl, hx', -, hb⟩
  have hx := hx' rfl
  clear hx'
  replace U0 := Lib.hid (U0.out.below hb)
  replace U1 := Lib.hid (U1.out.below hb)
  replace U2 := Lib.hid (U2.out.below hb)
  replace P7 := Lib.hid (P7.out.below hb)
  replace P9 := Lib.hid (P9.out.below hb)
  replace P11 := Lib.hid (P11.out.below hb)
  replace P13 := Lib.hid (P13.out.below hb)
  replace OA := Lib.hid (OA.out.below hb)
  replace HW := Lib.hid (HW.out.trans (hb.mono HW.out.size))
  have P15 := Lib.hid hx
  clear hb hx
  clear OA
  go_wp2_with fail
  refine (OW0.out _ _ U0.out).mono ?_
  rintro e w15 ⟨x15, rfl, hx, hb⟩
  replace U0 := Lib.hid (U0.out.below hb)
  replace U1 := Lib.hid (U1.out.below hb)
  replace U2 := Lib.hid (U2.out.below hb)
  replace P7 := Lib.hid (P7.out.below hb)
  replace P9 := Lib.hid (P9.out.below hb)
  replace P11 := Lib.hid (P11.out.below hb)
  replace P13 := Lib.hid (P13.out.below hb)
  replace P15 := Lib.hid (P15.out.below hb)
  replace HW := Lib.hid (HW.out.trans (hb.mono HW.out.size))
  have OA := Lib.hid hx
  clear hb hx
  go_wp2_with fail
  refine (OW2.out _ _ U2.out).mono ?_
  rintro e w16 ⟨x16, rfl, hx, hb⟩
  replace U0 := Lib.hid (U0.out.below hb)
  replace U1 := Lib.hid (U1.out.below hb)
  replace U2 := Lib.hid (U2.out.below hb)
  replace P7 := Lib.hid (P7.out.below hb)
  replace P9 := Lib.hid (P9.out.below hb)
  replace P11 := Lib.hid (P11.out.below hb)
  replace P13 := Lib.hid (P13.out.below hb)
  replace P15 := Lib.hid (P15.out.below hb)
  replace OA := Lib.hid (OA.out.below hb)
  replace HW := Lib.hid (HW.out.trans (hb.mono HW.out.size))
  have OB := Lib.hid hx
  clear hb hx
  go_wp2_with fail
  refine (MU02.out _ _ _ OA.out OB.out).mono ?_
  rintro e w17 ⟨x17, rfl, hx', -, hb⟩
  have hx := hx' rfl
  clear hx'
  replace U0 := Lib.hid (U0.out.below hb)
  replace U1 := Lib.hid (U1.out.below hb)
  replace U2 := Lib.hid (U2.out.below hb)
  replace P7 := Lib.hid (P7.out.below hb)
  replace P9 := Lib.hid (P9.out.below hb)
  replace P11 := Lib.hid (P11.out.below hb)
  replace P13 := Lib.hid (P13.out.below hb)
  replace P15 := Lib.hid (P15.out.below hb)
  replace OA := Lib.hid (OA.out.below hb)
  replace OB := Lib.hid (OB.out.below hb)
  replace HW := Lib.hid (HW.out.trans (hb.mono HW.out.size))
  have P17 := Lib.hid hx
  clear hb hx
  clear OA
  clear OB
  go_wp2_with fail
  refine (OW1.out _ _ U1.out).mono ?_
  rintro e w18 ⟨x18, rfl, hx, hb⟩
  replace U0 := Lib.hid (U0.out.below hb)
  replace U1 := Lib.hid (U1.out.below hb)
  replace U2 := Lib.hid (U2.out.below hb)
  replace P7 := Lib.hid (P7.out.below hb)
  replace P9 := Lib.hid (P9.out.below hb)
  replace P11 := Lib.hid (P11.out.below hb)
  replace P13 := Lib.hid (P13.out.below hb)
  replace P15 := Lib.hid (P15.out.below hb)
  replace P17 := Lib.hid (P17.out.below hb)
  replace HW := Lib.hid (HW.out.trans (hb.mono HW.out.size))
  have OA := Lib.hid hx
  clear hb hx
  go_wp2_with fail
  refine (OW2.out _ _ U2.out).mono ?_
  rintro e w19 ⟨x19, rfl, hx, hb⟩
  replace U0 := Lib.hid (U0.out.below hb)
  replace U1 := Lib.hid (U1.out.below hb)
  replace U2 := Lib.hid (U2.out.below hb)
  replace P7 := Lib.hid (P7.out.below hb)
  replace P9 := Lib.hid (P9.out.below hb)
  replace P11 := Lib.hid (P11.out.below hb)
  replace P13 := Lib.hid (P13.out.below hb)
  replace P15 := Lib.hid (P15.out.below hb)
  replace P17 := Lib.hid (P17.out.below hb)
  replace OA := Lib.hid (OA.out.below hb)
  replace HW := Lib.hid (HW.out.trans (hb.mono HW.out.size))
  have OB := Lib.hid hx
  clear hb hx
  go_wp2_with fail
  refine (MU12.out _ _ _ OA.out OB.out).mono ?_
  rintro e w20 ⟨x20, rfl, hx', -, hb⟩
  have hx := hx' rfl
  clear hx'
  replace U0 := Lib.hid (U0.out.below hb)
  replace U1 := Lib.hid (U1.out.below hb)
  replace U2 := Lib.hid (U2.out.below hb)
  replace P7 := Lib.hid (P7.out.below hb)
  replace P9 := Lib.hid (P9.out.below hb)
  replace P11 := Lib.hid (P11.out.below hb)
  replace P13 := Lib.hid (P13.out.below hb)
  replace P15 := Lib.hid (P15.out.below hb)
  replace P17 := Lib.hid (P17.out.below hb)
  replace OA := Lib.hid (OA.out.below hb)
  replace OB := Lib.hid (OB.out.below hb)
  replace HW := Lib.hid (HW.out.trans (hb.mono HW.out.size))
  have P19 := Lib.hid hx
  clear hb hx
  clear OA
  clear OB
  go_wp2_with fail
  refine (ADM.out _ _ _ P17.out.nn P19.out.nn).mono ?_
  rintro e w21 ⟨x21, rfl, hx', -, hb⟩
  have hx := hx' rfl
  clear hx'
  replace U0 := Lib.hid (U0.out.below hb)
  replace U1 := Lib.hid (U1.out.below hb)
  replace U2 := Lib.hid (U2.out.below hb)
  replace P7 := Lib.hid (P7.out.below hb)
  replace P9 := Lib.hid (P9.out.below hb)
  replace P11 := Lib.hid (P11.out.below hb)
  replace P13 := Lib.hid (P13.out.below hb)
  replace P15 := Lib.hid (P15.out.below hb)
  replace P17 := Lib.hid (P17.out.below hb)
  replace P19 := Lib.hid (P19.out.below hb)
  replace HW := Lib.hid (HW.out.trans (hb.mono HW.out.size))
  have P21 := Lib.hid hx
  clear hb hx
  clear P17
  clear P19
  clear U0
  clear U1
  clear U2
  clear OW0 OW1 OW2 AD01 AD10 MU01 MU10 MUS MU02 MU12 ADM
  rw [Nat.add_comm B A] at P9
  rw [Nat.mul_comm B A] at P13
  rw [← Nat.add_mul] at P21
  go_wp2_with fail
  refine (same_any P7.out P9.out).mono ?_
  rintro e w22 ⟨rfl, m22, hm⟩
  have hb : Below w21.heap.size w21 w22 := by rw [hm]; exact below_drewN (Below.refl _ _) _
  clear hm
  replace P7 := Lib.hid (P7.out.below hb)
  replace P9 := Lib.hid (P9.out.below hb)
  replace P11 := Lib.hid (P11.out.below hb)
  replace P13 := Lib.hid (P13.out.below hb)
  replace P15 := Lib.hid (P15.out.below hb)
  replace P21 := Lib.hid (P21.out.below hb)
  replace HW := Lib.hid (HW.out.trans (hb.mono HW.out.size))
  clear hb
  clear P7
  clear P9
  go_wp2_with fail
  refine (same_any P11.out P13.out).mono ?_
  rintro e w23 ⟨rfl, m23, hm⟩
  have hb : Below w22.heap.size w22 w23 := by rw [hm]; exact below_drewN (Below.refl _ _) _
  clear hm
  replace P11 := Lib.hid (P11.out.below hb)
  replace P13 := Lib.hid (P13.out.below hb)
  replace P15 := Lib.hid (P15.out.below hb)
  replace P21 := Lib.hid (P21.out.below hb)
  replace HW := Lib.hid (HW.out.trans (hb.mono HW.out.size))
  clear hb
  clear P11
  clear P13
  go_wp2_with fail
  refine (same_any P15.out P21.out).mono ?_
  rintro e w24 ⟨rfl, m24, hm⟩
  have hb : Below w23.heap.size w23 w24 := by rw [hm]; exact below_drewN (Below.refl _ _) _
  clear hm
  replace P15 := Lib.hid (P15.out.below hb)
  replace P21 := Lib.hid (P21.out.below hb)
  replace HW := Lib.hid (HW.out.trans (hb.mono HW.out.size))
  clear hb
  clear P15
  clear P21
  go_wp2_with fail
  refine (lives_any _).mono ?_
  rintro e w25 ⟨rfl, hb⟩
  replace HW := Lib.hid (HW.out.trans (hb.mono HW.out.size))
  clear hb
  go_wp2
  go_ret
  exact ⟨rfl, HW.out⟩
end Go.Proofs.Ytgegkffigjogcaa
namespace Go.Proofs.Ytgegkffigjogcaa
open Go.RowKit

/-- What a call leaves that tells two numbers, or that it can't. -/
def Ans3 (c Q R : Nat) (w : World) (e : Ending) (w' : World) : Prop := ∃ u v, e = .returned (.tuple #[u, v, .int .i64 (c : Nat)]) ∧ (c = 0 → PV Q u w' ∧ PV R v w') ∧ (c ≠ 0 → u = .slice none 0 0 ∧ v = .slice none 0 0) ∧ Below w.heap.size w w'
theorem Ans3.err {c Q R : Nat} {w w' : World} (h : c ≠ 0) (hb : Below w.heap.size w w') : Ans3 c Q R w (.returned (.tuple #[.slice none 0 0, .slice none 0 0, .int .i64 (c : Nat)])) w' := ⟨_, _, rfl, fun h0 => absurd h0 h, fun _ => ⟨rfl, rfl⟩, hb⟩
/-- What is told of A by B. -/
def cdD (A B : Nat) : Nat := if cd2 A B = 0 then (if B = 0 then 1 else 0) else cd2 A B

set_option maxRecDepth 100000 in
set_option maxHeartbeats 1000000 in
-- WHERE ALL GOES WELL.
theorem divmod_main {a : Option Addr} {n ca : Nat} {f : Nat → Nat} {b : Option Addr} {nm cb : Nat} {g : Nat → Nat} {A M : Nat} {w : World}
    (ha : NvA w a n ca f) (hav : vb 4294967296 f n = A) (hb : NvA w b nm cb g) (hbv : vb 4294967296 g nm = M) (hc : cd2 A M = 0) (hM0 : M ≠ 0) :
    Calls Try.prog 28 #[.slice a n ca, .slice b nm cb] w (Ans3 0 (A / M) (A % M) w) := by
  have hw1 : Below w.heap.size w (w.alloc (.cells #[.slice a n ca, .slice b nm cb] 23)) := (Below.refl _ _).alloc (Nat.le_refl _) _
  have tc := two_cells w (.slice a n ca) (.slice b nm cb) 23
  have HC := Lib.hid (check_two (A := A) (B := M) (NN.below ⟨a, n, ca, f, rfl, ha, hav⟩ hw1) (NN.below ⟨b, nm, cb, g, rfl, hb, hbv⟩ hw1) tc.1 tc.2)
  rw [hc] at HC
  clear tc
  obtain ⟨lA, lM⟩ := cd2_ok hc
  clear hc
  have ha1 := ha.below hw1
  have hb1 := hb.below hw1
  have hn1 : tn f n ≤ 1024 := Nat.le_of_not_lt (fun h => lA (by rw [← hav]; exact (lim_iff ha.lt).1 h))
  have hn3 : tn g nm ≤ 1024 := Nat.le_of_not_lt (fun h => lM (by rw [← hbv]; exact (lim_iff hb.lt).1 h))
  clear lA lM
  have HLM := Lib.hid (len_nv hb1)
  rw [hbv] at HLM
  have elm : (((blN M : Nat) : Int) == 0) = false := by simp [blN_nz hM0]
  have HT := Lib.hid (trim_nv hb1)
  have HTA := Lib.hid (trim_nv ha1)
  obtain ⟨k, hk⟩ : ∃ k, tn g nm = k + 1 := by
    refine ⟨tn g nm - 1, ?_⟩
    rcases Nat.eq_zero_or_pos (tn g nm) with h | h
    · exfalso; apply hM0; rw [← hbv, ← vb_tn, h]; rfl
    · omega
  have hkt : g k ≠ 0 := by
    have := tn_top g nm
    rw [hk] at this
    rcases this with h | h
    · omega
    · simpa using h
  have hbm : vb 4294967296 g (k + 1) = M := by rw [← hk, vb_tn, hbv]
  have hat := ha1.trim
  have hbt := hb1.trim
  have hav1 : vb 4294967296 f (tn f n) = A := by rw [vb_tn, hav]
  obtain ⟨n1, hn1e⟩ : ∃ n1, tn f n = n1 := ⟨_, rfl⟩
  rw [hk] at HT hn3 hbt
  rw [hn1e] at HTA hn1 hat hav1
  have hdv := divide_any a n1 ca b k cb f g (by omega) (by omega) hat.lt hbt.lt hkt _ hat.rd hbt.rd
  rw [hav1, hbm] at hdv
  have HD := Lib.hid hdv
  have HW1 := Lib.hid hw1
  have hn2 : (n1 : Int) ≤ 1024 := by omega
  clear hdv hk hb1 hb hbv hn1e ha1 ha hav hat hbt hav1 hbm hkt hM0 hn1 hn3 hw1
  obtain ⟨w1, hw1e⟩ : ∃ w1, w.alloc (.cells #[.slice a n ca, .slice b nm cb] 23) = w1 := ⟨_, rfl⟩
  rw [hw1e] at HC HLM HT HTA HW1 HD
  go_enter Try.func28, Try.ntmps28
  go_wp2_with fail
  clear hw1e
  refine HC.out.mono ?_
  rintro e w' ⟨rfl, rfl⟩
  go_wp2_with fail
  refine HLM.out.mono ?_
  rintro e w' ⟨rfl, rfl⟩
  go_wp2_with fail
  refine HTA.out.mono ?_
  rintro e w' ⟨rfl, rfl⟩
  go_wp2_with fail
  refine HT.out.mono ?_
  rintro e w' ⟨rfl, rfl⟩
  go_wp2_with fail
  refine HD.out.mono ?_
  rintro e w7 ⟨Q, nq, cq, R, cr, q, r, rfl, hnq, hcq, hcr, -, -, -, hWQ, hWR, hql, hrl, hvq, hvr, hb7⟩
  have hpq := plain_nv (w := w7) (a := some ⟨Q, 0, none⟩) (n := nq) (cap := cq) (f := q) ⟨hcq, hWQ.rd, fun p hp => by cases hp; exact hWQ.1, hql, by omega⟩
  have hnr : NvA w7 (some ⟨R, 0, none⟩) (n1 + 1) cr r := ⟨hcr, hWR.rd, fun p hp => by cases hp; exact hWR.1, hrl, by omega⟩
  rw [hvq] at hpq
  have HPQ := Lib.hid hpq
  have HNR := Lib.hid (And.intro hnr hvr)
  have HB7 := Lib.hid (HW1.out.trans (hb7.mono HW1.out.size))
  clear hpq hnr hnq hcq hcr hWQ hWR hql hrl hvq hvr hb7
  go_wp2_with fail
  refine HPQ.out.mono ?_
  rintro e w8 ⟨u, rfl, hu, hb8⟩
  have hpr := plain_nv (HNR.out.1.below hb8)
  rw [HNR.out.2] at hpr
  have HPR := Lib.hid hpr
  have HU := Lib.hid (And.intro hu (HB7.out.trans (hb8.mono HB7.out.size)))
  clear hpr hu hb8
  go_wp2_with fail
  refine HPR.out.mono ?_
  rintro e w9 ⟨v, rfl, hv, hb9⟩
  have HF : Hid (Ans3 0 (A / M) (A % M) w (.returned (.tuple #[u, v, .int .i64 ((0 : Nat) : Int)])) w9) := Lib.hid ⟨u, v, rfl, fun _ => ⟨HU.out.1.below hb9, hv⟩, fun h => absurd rfl h, HU.out.2.trans (hb9.mono HU.out.2.size)⟩
  clear hv hb9
  go_wp2
  go_ret3
  exact HF.out
set_option maxRecDepth 100000 in
set_option maxHeartbeats 1000000 in
-- WHAT nat.DivMod COMES TO.
theorem divmod_api {A M : Nat} {va vm : Value} {w : World} (hA : NN A va w) (hM : NN M vm w) : Calls Try.prog 28 #[va, vm] w (Ans3 (cdD A M) (A / M) (A % M) w) := by
  have hA' := hA
  have hM' := hM
  obtain ⟨a, n, ca, f, rfl, ha, hav⟩ := hA'
  obtain ⟨b, nm, cb, g, rfl, hb, hbv⟩ := hM'
  have hw1 : Below w.heap.size w (w.alloc (.cells #[.slice a n ca, .slice b nm cb] 23)) := (Below.refl _ _).alloc (Nat.le_refl _) _
  have tc := two_cells w (.slice a n ca) (.slice b nm cb) 23
  have HC := Lib.hid (check_two (hA.below hw1) (hM.below hw1) tc.1 tc.2)
  clear tc
  by_cases h0 : cd2 A M = 0
  · by_cases hm0 : M = 0
    · have ec : cdD A M = 1 := by unfold cdD; rw [if_pos h0, if_pos hm0]
      rw [ec]
      rw [h0] at HC
      have HLM := Lib.hid (len_nv (hb.below hw1))
      rw [hbv, show blN M = 0 by rw [hm0]; rfl] at HLM
      have HW1 := Lib.hid hw1
      clear hw1 ha hb hav hbv hA hM h0 hm0 ec
      go_enter Try.func28, Try.ntmps28
      go_wp2_with fail
      refine HC.out.mono ?_
      rintro e w' ⟨rfl, rfl⟩
      go_wp2_with fail
      refine HLM.out.mono ?_
      rintro e w' ⟨rfl, rfl⟩
      go_wp2
      go_ret3
      exact Ans3.err (by omega) HW1.out
    · have ec : cdD A M = 0 := by unfold cdD; rw [if_pos h0, if_neg hm0]
      rw [ec]
      exact divmod_main ha hav hb hbv h0 hm0
  · have ec : cdD A M = cd2 A M := by unfold cdD; rw [if_neg h0]
    rw [ec]
    clear ec
    obtain ⟨c, hc⟩ : ∃ c, cd2 A M = c := ⟨_, rfl⟩
    rw [hc] at HC h0 ⊢
    have e0 : ((c : Int) != 0) = true := by simp [h0]
    have H0 := Lib.hid h0; clear h0 hav hbv ha hb hc hA hM
    have HW1 := Lib.hid hw1; clear hw1
    go_enter Try.func28, Try.ntmps28
    go_wp2_with fail
    refine HC.out.mono ?_
    rintro e w' ⟨rfl, rfl⟩
    go_wp2
    go_ret3
    exact Ans3.err H0.out HW1.out
end Go.Proofs.Ytgegkffigjogcaa
namespace Go.Proofs.Ytgegkffigjogcaa
open Go.RowKit

set_option maxRecDepth 100000 in
set_option maxHeartbeats 1000000 in
theorem refplain_some (q : Addr) (n cap : Nat) (f : Nat → Nat) (hn : (n : Int) ≤ 35184372088832) (hc : n ≤ cap) (w : World) (hP : RdA w (some q) n f) :
    Calls Try.prog 25 #[.slice (some q) n cap] w (MkN (tn f n) f w) := by
  have HP := Lib.hid hP; clear hP
  have hsl : ∀ h : Nat, (h : Int) ≤ cap → ∀ w, (Instr.slice 23 (.slice (some q) n cap) none (some (.int .i64 (h : Int))) none).run Try.prog w = .ok (.slice (some q) h cap) w := fun h hh w => slice_nat (some q) n cap h hh w
  have HSL := Lib.hid hsl; clear hsl
  obtain ⟨i0, hi, hz0, hz1, hz2⟩ := info_parts info32
  go_enter Try.func25, Try.ntmps25
  go_wp2
  go_loop [3] (fun iv => ∃ k : Nat, k ≤ n ∧ iv = .int .i64 k ∧ Hid (tn f n = tn f k)) (fun iv => (intOf iv).toNat)
  case atStart => exact ⟨n, Nat.le_refl _, rfl, Lib.hid rfl⟩
  case round =>
    obtain ⟨k, hk, rfl, H⟩ := hrel
    have hkb : (k : Int) ≤ 35184372088832 := by omega
    have hk00 : (0 : Int) ≤ k := by omega
    by_cases hz : k ≠ 0 ∧ f (k - 1) = 0
    · obtain ⟨hk0, hz⟩ := hz
      obtain ⟨i, hi'⟩ : ∃ i : Nat, (k : Int) - 1 = (i : Int) := ⟨k - 1, by omega⟩
      have hik : k = i + 1 := by omega
      have hi0 : (0 : Int) ≤ i := by omega
      have hi1 : (i : Int) < n := by omega
      have hk1 : (0 : Int) < k := by omega
      rw [show k - 1 = i by omega] at hz
      obtain ⟨p, hx, -, -, ca⟩ := HP.out.at_ cap i (by omega)
      have hz' : ((f i : Nat) : Int) = 0 := by omega
      have hz2' : (((f i : Nat) : Int) == 0) = true := by simp [hz]
      have HZ := Lib.hid (And.intro hz hik); clear hz hik
      go_wp2
      go_round
      case rel => exact ⟨i, by omega, rfl, Lib.hid (by rw [H.out, HZ.out.2, tn, if_pos HZ.out.1])⟩
      case measure => simp [intOf]; omega
    · have e : tn f n = k := by
        rw [H.out]
        rcases Nat.eq_zero_or_pos k with h | h
        · rw [h]; rfl
        · obtain ⟨i, rfl⟩ : ∃ i, k = i + 1 := ⟨k - 1, by omega⟩
          rw [tn, if_neg (fun h2 => hz ⟨by omega, by simpa using h2⟩)]
      have hs := HSL.out k (by omega)
      have hw := HP.out.less k hk
      have hst : k = 0 ∨ f (k - 1) ≠ 0 := by
        rcases Nat.eq_zero_or_pos k with h | h
        · exact .inl h
        · exact .inr (fun h2 => hz ⟨by omega, h2⟩)
      have HE := Lib.hid (And.intro e hw)
      clear e hw hz H
      rcases Nat.eq_zero_or_pos k with h0 | h0
      · have hk1 : ¬ (0 : Int) < k := by omega
        clear h0 hst
        go_wp2_with (at_builtin; refine wpList_append_own _ rfl _ _ 23 rfl w.heap.size 32 i0 (.int .u32 0) 1 4 Try.underlying23 hi hz0 hz1 hz2 rfl (by decide) _ 0 [] rfl (World.ownsRow_made (base := w.heap.size) (e := 32) (size := 1) w #[] 0 (by simp) (by decide) (by simp)) q k cap (pl f k) rfl (by rw [pl_len, Nat.mul_one]) ?c1 ?c2 ?c3 ?c4 ?c5 ?_)
        case c1 => exact rd_add (HE.out.2.below ((Below.refl _ _).alloc (Nat.le_refl _) _)) q rfl
        case c2 => exact one_pl f k
        case c3 => unfold maxLen; omega
        case c4 => omega
        intro v' w1 hown' hgrow _
        have HF := Lib.hid (mk_own (w := w) hown' (Nat.le_refl _) (((Below.refl _ _).alloc (Nat.le_refl _) _).grown hgrow (by simp) (fun j hj => by cases hj; exact Nat.le_refl _)))
        clear hown' hgrow
        go_wp2
        go_ret
        rw [HE.out.1]
        exact HF.out
      · obtain ⟨i, hi'⟩ : ∃ i : Nat, (k : Int) - 1 = (i : Int) := ⟨k - 1, by omega⟩
        have hi0 : (0 : Int) ≤ i := by omega
        have hi1 : (i : Int) < n := by omega
        have hk1 : (0 : Int) < k := by omega
        obtain ⟨p, hx, -, -, ca⟩ := HP.out.at_ cap i (by omega)
        have hz2' : (((f i : Nat) : Int) == 0) = false := by
          have := hst.resolve_left (by omega)
          rw [show k - 1 = i by omega] at this
          simpa using this
        clear h0 hst
        go_wp2_with (at_builtin; refine wpList_append_own _ rfl _ _ 23 rfl w.heap.size 32 i0 (.int .u32 0) 1 4 Try.underlying23 hi hz0 hz1 hz2 rfl (by decide) _ 0 [] rfl (World.ownsRow_made (base := w.heap.size) (e := 32) (size := 1) w #[] 0 (by simp) (by decide) (by simp)) q k cap (pl f k) rfl (by rw [pl_len, Nat.mul_one]) ?c1 ?c2 ?c3 ?c4 ?c5 ?_)
        case c1 => exact rd_add (HE.out.2.below ((Below.refl _ _).alloc (Nat.le_refl _) _)) q rfl
        case c2 => exact one_pl f k
        case c3 => unfold maxLen; omega
        case c4 => omega
        intro v' w1 hown' hgrow _
        have HF := Lib.hid (mk_own (w := w) hown' (Nat.le_refl _) (((Below.refl _ _).alloc (Nat.le_refl _) _).grown hgrow (by simp) (fun j hj => by cases hj; exact Nat.le_refl _)))
        clear hown' hgrow
        go_wp2
        go_ret
        rw [HE.out.1]
        exact HF.out
set_option maxRecDepth 100000 in
set_option maxHeartbeats 1000000 in
theorem refplain_none (f : Nat → Nat) (w : World) : Calls Try.prog 25 #[.slice none 0 0] w (MkN 0 f w) := by
  obtain ⟨i0, hi, hz0, hz1, hz2⟩ := info_parts info32
  have hs : ∀ w, (Instr.slice 23 (.slice none 0 0) none (some (.int .i64 0)) none).run Try.prog w = .ok (.slice none 0 0) w := fun w => slice_nat none 0 0 0 (by omega) w
  go_enter Try.func25, Try.ntmps25
  go_wp2
  go_loop [3] (fun iv => iv = .int .i64 0) (fun iv => (intOf iv).toNat)
  case atStart => rfl
  case round =>
    obtain rfl := hrel
    go_wp2_with (at_builtin; refine wpList_append_own_none rfl _ _ 23 rfl w.heap.size 32 i0 1 Try.underlying23 hi _ 0 [] rfl (World.ownsRow_made (base := w.heap.size) (e := 32) (size := 1) w #[] 0 (by simp) (by decide) (by simp)) rfl ?_)
    go_wp2
    go_ret
    exact ⟨_, 0, rfl, Nat.le_refl _, .inl rfl, (fun q hq => by cases hq; exact ⟨Nat.le_refl _, by simp⟩), by go_grown⟩
-- WHAT THE REFERENCE's Plain COMES TO.
theorem refplain_any {w : World} {v : Value} {n : Nat} {f : Nat → Nat} (h : ArgN w v n f) (hn : (n : Int) ≤ 35184372088832) (hf : ∀ j, j < n → f j < 4294967296) : Calls Try.prog 25 #[v] w (MkP (vb 4294967296 f n) w) := by
  have key : ∀ {n : Nat}, (n : Int) ≤ 35184372088832 → (∀ j, j < n → f j < 4294967296) → ∀ {e : Ending} {w' : World}, MkN (tn f n) f w e w' → MkP (vb 4294967296 f n) w e w' := by
    rintro n hn hf e w' ⟨a, c, rfl, h1, h2, h3, h4⟩
    have hl := tn_le f n
    exact ⟨_, rfl, ⟨a, _, c, f, rfl, ⟨h1, h2, fun q hq => (h3 q hq).2, fun j hj => hf j (by omega), by omega⟩, vb_tn _ _ _, tn_top f n⟩, h4⟩
  obtain ⟨a, cap, rfl, hc, hn0, hr⟩ := h
  cases a with
  | none =>
    have h0 := hn0 rfl
    subst h0
    obtain rfl : n = 0 := by omega
    exact (refplain_none f w).mono fun e w' h => key hn hf h
  | some q => exact (refplain_some q n cap f hn hc w hr).mono fun e w' h => key hn hf h
end Go.Proofs.Ytgegkffigjogcaa
namespace Go.Proofs.Ytgegkffigjogcaa
open Go.RowKit

/-- What an operation's slot holds. -/
def slotVal (a : Act) (o : Oper) : Value := match o.dst with
  | some d => a.tmps.getD d undef
  | none => undef
def isDst (l : List Oper) (t : Nat) : Bool := l.any fun o => o.dst == some t
/-- Every operation's value put into its slot. -/
def putAll (f : Oper → Value) : List Oper → Act → Act
  | [], a => a
  | o :: l, a => putAll f l (a.put o.dst (f o))

theorem put_size (a : Act) (d : Option Tmp) (v : Value) : (a.put d v).tmps.size = a.tmps.size := by
  cases d <;> simp [Act.put]
theorem put_defers (a : Act) (d : Option Tmp) (v : Value) : (a.put d v).defers = a.defers := by
  cases d <;> rfl
theorem put_other (a : Act) (d : Option Tmp) (v : Value) (t : Nat) (h : d ≠ some t) : (a.put d v).tmps.getD t undef = a.tmps.getD t undef := by
  cases d with
  | none => rfl
  | some d =>
    have : d ≠ t := fun e => h (by rw [e])
    simp [Act.put, Array.getElem?_setIfInBounds_ne this]
theorem put_same (a : Act) (d : Nat) (v : Value) (h : d < a.tmps.size) : (a.put (some d) v).tmps.getD d undef = v := by
  simp [Act.put, h]

theorem putAll_size (f : Oper → Value) : ∀ (l : List Oper) (a : Act), (putAll f l a).tmps.size = a.tmps.size
  | [], _ => rfl
  | o :: l, a => by rw [putAll, putAll_size f l, put_size]
theorem putAll_defers (f : Oper → Value) : ∀ (l : List Oper) (a : Act), (putAll f l a).defers = a.defers
  | [], _ => rfl
  | o :: l, a => by rw [putAll, putAll_defers f l, put_defers]
theorem putAll_at (b : Act) : ∀ (l : List Oper) (a : Act) (t : Nat), t < a.tmps.size → (isDst l t = false → a.tmps.getD t undef = b.tmps.getD t undef) → (putAll (slotVal b) l a).tmps.getD t undef = b.tmps.getD t undef
  | [], a, t, _, h => h rfl
  | o :: l, a, t, ht, h => by
    rw [putAll]
    refine putAll_at b l _ t (by rw [put_size]; exact ht) (fun hl => ?_)
    by_cases e : o.dst = some t
    · rw [e, put_same _ _ _ ht]
      unfold slotVal
      rw [e]
    · rw [put_other _ _ _ _ e]
      exact h (by simp only [isDst, List.any_cons, Bool.or_eq_false_iff]; exact ⟨by simpa using e, hl⟩)
theorem put_back {a a0 : Act} {l : List Oper} (hs : a.tmps.size = a0.tmps.size) (hd : a.defers = a0.defers) (hk : ∀ t, isDst l t = false → a.tmps.getD t undef = a0.tmps.getD t undef) : a = putAll (slotVal a) l a0 := by
  have h1 := putAll_size (slotVal a) l a0
  have h2 := putAll_defers (slotVal a) l a0
  have h3 := fun t ht => putAll_at a l a0 t ht (fun h => (hk t h).symm)
  generalize putAll (slotVal a) l a0 = b at *
  obtain ⟨ta, da⟩ := a
  obtain ⟨tb, db⟩ := b
  simp only at *
  have : ta = tb := by
    apply Array.ext (by omega)
    intro i hi hj
    have := h3 i (by omega)
    simp [hi, hj] at this
    exact this.symm
  rw [this, hd, h2]

section
variable {P : Program} {ops : Array Oper} {Q : Exit → Act → World → Prop} {C : World → Prop} {φ : Nat → Value → World → Prop} {R : World → World → Prop} {a0 : Act}

/-- What is known where an operation comes up: the slots that the region doesn't write; those that it waits for. -/
def Known (ops : Array Oper) (φ : Nat → Value → World → Prop) (a0 : Act) (o : Oper) (a : Act) (w : World) : Prop :=
  (∀ t, isDst ops.toList t = false → a.tmps.getD t undef = a0.tmps.getD t undef) ∧ (∀ e ∈ o.after, Region.binds .any e = true → ∀ oj, ops[e.on]? = some oj → φ e.on (slotVal a oj) w)
/-- What one operation must do. -/
def Step (P : Program) (ops : Array Oper) (Q : Exit → Act → World → Prop) (C : World → Prop) (φ : Nat → Value → World → Prop) (R : World → World → Prop) (k : Nat) (o : Oper) (a : Act) (w : World) : Prop :=
  if Region.wanted o (yielded ops a.tmps) then o.wp P a w (fun a' w' => ∃ v, a' = a.put o.dst v ∧ C w' ∧ φ k v w' ∧ R w w' ∧ (o.dst = none → v = undef)) Q else φ k undef w
def Steps (P : Program) (ops : Array Oper) (Q : Exit → Act → World → Prop) (C : World → Prop) (φ : Nat → Value → World → Prop) (R : World → World → Prop) (a0 : Act) : Nat → List Oper → Prop
  | _, [] => True
  | k, o :: l => (∀ a w, C w → Known ops φ a0 o a w → Step P ops Q C φ R k o a w) ∧ Steps P ops Q C φ R a0 (k + 1) l
theorem Steps.at_ : ∀ {l : List Oper} {k : Nat}, Steps P ops Q C φ R a0 k l → ∀ (i : Nat) (o : Oper), l[i]? = some o → ∀ a w, C w → Known ops φ a0 o a w → Step P ops Q C φ R (k + i) o a w
  | [], _, _, i, o, hi => by simp at hi
  | o :: l, k, h, 0, o', hi => by simp at hi; subst hi; exact h.1
  | o :: l, k, h, i + 1, o', hi => by
    have := Steps.at_ h.2 i o' (by simpa using hi)
    rwa [show k + 1 + i = k + (i + 1) by omega] at this

def distinctB : List Oper → Bool
  | [] => true
  | o :: l => (match o.dst with | some d => !(isDst l d) | none => true) && distinctB l
theorem distinct_spec : ∀ {l : List Oper}, distinctB l = true → ∀ (i j : Nat) (oi oj : Oper) (d : Nat), l[i]? = some oi → l[j]? = some oj → i ≠ j → oi.dst = some d → oj.dst ≠ some d
  | [], _, i, _, _, _, _, hi, _, _, _ => by simp at hi
  | o :: l, h, i, j, oi, oj, d, hi, hj, hne, hd => by
    simp only [distinctB, Bool.and_eq_true] at h
    have out : ∀ (k : Nat) (ok : Oper) (e : Nat), l[k]? = some ok → o.dst = some e → ok.dst ≠ some e := fun k ok e hk he hok => by
      have h1 := h.1
      rw [he] at h1
      simp only [Bool.not_eq_true', isDst, List.any_eq_false] at h1
      exact h1 ok (List.mem_of_getElem? hk) (by simp [hok])
    match i, j, hi, hj with
    | 0, 0, _, _ => exact absurd rfl hne
    | 0, j + 1, hi, hj => simp at hi; subst hi; exact out j oj d (by simpa using hj) hd
    | i + 1, 0, hi, hj => simp at hj; subst hj; exact fun he => out i oi d (by simpa using hi) he hd
    | i + 1, j + 1, hi, hj => exact distinct_spec h.2 i j oi oj d (by simpa using hi) (by simpa using hj) (by omega) hd

def lexicalB (ops : Array Oper) : Bool := (List.range ops.size).all fun i => match ops[i]? with
  | some o => o.after.all fun e => decide (e.on < i)
  | none => true
def inB (ops : Array Oper) (n : Nat) : Bool := ops.toList.all fun o => match o.dst with
  | some d => decide (d < n)
  | none => true

theorem wpAny_inv (hdist : distinctB ops.toList = true) (hlex : lexicalB ops = true) (hin : inB ops a0.tmps.size = true)
    (hφ : ∀ i v w w', R w w' → φ i v w → φ i v w') (hst : Steps P ops Q C φ R a0 0 ops.toList)
    (hQ : ∀ (f : Oper → Value) w, C w → (∀ i o, ops[i]? = some o → φ i (f o) w) → Q .normal (putAll f ops.toList a0) w) :
    ∀ (fuel : Nat) (listed : Array Bool) (a : Act) (w : World), listed.size = ops.size → listed.toList.count false ≤ fuel → C w → a.tmps.size = a0.tmps.size → a.defers = a0.defers →
      (∀ t, isDst ops.toList t = false → a.tmps.getD t undef = a0.tmps.getD t undef) → (∀ i o, listed.getD i false = true → ops[i]? = some o → φ i (slotVal a o) w) → wpAny P .any ops Q fuel listed a w := by
  have done : ∀ (listed : Array Bool) (a : Act) (w : World), (∀ i, i < ops.size → listed.getD i false = true) → C w → a.tmps.size = a0.tmps.size → a.defers = a0.defers →
      (∀ t, isDst ops.toList t = false → a.tmps.getD t undef = a0.tmps.getD t undef) → (∀ i o, listed.getD i false = true → ops[i]? = some o → φ i (slotVal a o) w) → Q .normal a w := by
    intro listed a w hall hC hs hd hk hp
    rw [put_back hs hd hk]
    exact hQ _ w hC (fun i o ho => hp i o (hall i (Array.getElem?_eq_some_iff.1 ho).1) ho)
  intro fuel
  induction fuel with
  | zero =>
    intro listed a w hsz hc hC hs hd hk hp
    have hno : false ∉ listed.toList := List.count_eq_zero.1 (by omega)
    have hall : ∀ i, i < ops.size → listed.getD i false = true := fun i hi => by
      have hlt : i < listed.size := by omega
      have hm : listed[i] ∈ listed.toList := by simp
      simp only [Array.getD_eq_getD_getElem?, hlt, Array.getElem?_eq_getElem, Option.getD_some]
      cases h : listed[i] with
      | true => rfl
      | false => rw [h] at hm; exact absurd hm hno
    refine ⟨?_, done listed a w hall hC hs hd hk hp⟩
    rw [List.eq_nil_iff_forall_not_mem]
    intro j hj
    obtain ⟨h0, o, ho, -⟩ := mem_ready.1 hj
    have hlt := (Array.getElem?_eq_some_iff.1 ho).1
    have h1 := hall j hlt
    simp [show j < listed.size by omega] at h0 h1
    rw [h0] at h1
    cases h1
  | succ fuel ih =>
    intro listed a w hsz hc hC hs hd hk hp
    refine ⟨fun hr => ?_, fun i hi => ?_⟩
    · refine done listed a w ?_ hC hs hd hk hp
      -- the least that isn't listed would be ready
      intro i
      induction i using Nat.strongRecOn with
      | _ i ihi =>
        intro hi
        cases h : listed.getD i false with
        | true => rfl
        | false =>
          have ho : ops[i]? = some ops[i] := Array.getElem?_eq_getElem hi
          have : i ∈ Region.ready .any ops listed := mem_ready.2 ⟨by simpa [show i < listed.size by omega] using h, ops[i], ho, fun e he _ => by
            have hl := hlex
            unfold lexicalB at hl
            rw [List.all_eq_true] at hl
            have := hl i (by simpa using hi)
            rw [ho] at this
            simp only [Array.all_eq_true_iff_forall_mem, decide_eq_true_eq] at this
            have hlt := this e he
            exact ihi e.on hlt (by omega)⟩
          rw [hr] at this
          cases this
    · obtain ⟨h0, o, ho, hall⟩ := mem_ready.1 hi
      have hlt : i < ops.size := (Array.getElem?_eq_some_iff.1 ho).1
      have hl' : ops.toList[i]? = some o := by simpa using ho
      have hstep := hst.at_ i o hl' a w hC ⟨hk, fun e he hb oj hj => hp e.on oj (hall e he hb) hj⟩
      rw [Nat.zero_add] at hstep
      have go : ∀ (v : Value) (w' : World), C w' → φ i v w' → (∀ j u, φ j u w → φ j u w') → (o.dst = none → v = undef) → wpAny P .any ops Q fuel (listed.setIfInBounds i true) (a.put o.dst v) w' := by
        intro v w' hC' hv hm hu
        refine ih _ _ _ (by simpa using hsz) ?_ hC' (by rw [put_size]; exact hs) (by rw [put_defers]; exact hd) ?_ ?_
        · have hil : i < listed.size := by omega
          have e0 : listed[i] = false := by simpa [hil] using h0
          rw [Array.toList_setIfInBounds, List.count_set (by simpa using hil)]
          have : listed.toList[i]'(by simpa using hil) = false := by simpa using e0
          simp only [this]
          simp
          have hpos : 0 < listed.toList.count false := List.count_pos_iff.2 (by rw [← e0]; simp)
          simp at hpos
          simp at hc
          omega
        · intro t ht
          have hne : o.dst ≠ some t := fun e => by
            simp only [isDst, List.any_eq_false] at ht
            exact ht o (List.mem_of_getElem? hl') (by simp [e])
          rw [put_other _ _ _ _ hne]
          exact hk t ht
        · intro j oj hj hoj
          by_cases e : i = j
          · subst e
            have : oj = o := Option.some.inj (hoj.symm.trans ho)
            subst this
            have : slotVal (a.put oj.dst v) oj = v := by
              unfold slotVal
              cases hd' : oj.dst with
              | none => exact (hu hd').symm
              | some d =>
                have hin' := hin
                unfold inB at hin'
                rw [List.all_eq_true] at hin'
                have hdl : d < a0.tmps.size := by
                  have h := hin' oj (List.mem_of_getElem? hl')
                  rw [hd'] at h
                  exact of_decide_eq_true h
                exact put_same _ _ _ (by rw [hs]; exact hdl)
            rw [this]; exact hv
          · rw [getD_set_ne false e] at hj
            have : slotVal (a.put o.dst v) oj = slotVal a oj := by
              unfold slotVal
              cases hd' : oj.dst with
              | none => rfl
              | some d =>
                exact put_other _ _ _ _ (fun he => distinct_spec hdist i j o oj d hl' (by simpa using hoj) e he hd')
            rw [this]
            exact hm _ _ (hp j oj hj hoj)
      unfold wpOp
      rw [ho]
      simp only
      unfold Step at hstep
      split
      · rename_i hw
        rw [if_pos hw] at hstep
        refine .inl (Oper.wp_mono ?_ hstep)
        rintro a' w' ⟨v, rfl, hC', hv, hR, hu⟩
        exact go v w' hC' hv (fun j u h => hφ j u w w' hR h) hu
      · rename_i hw
        rw [if_neg hw] at hstep
        exact go undef w hC hstep (fun j u h => h) (fun _ => rfl)

/-- THE LAW. -/
theorem region_inv {id : Nat} {l : List Oper} {w : World} (C : World → Prop) (φ : Nat → Value → World → Prop) (R : World → World → Prop) (hm : P.follows .mixedOrders = true) (hB : (distinctB l && lexicalB l.toArray && inB l.toArray a0.tmps.size) = true) (hC : C w.drew)
    (hφ : ∀ i v w w', R w w' → φ i v w → φ i v w') (hst : Steps P l.toArray Q C φ R a0 0 l)
    (hQ : ∀ (f : Oper → Value) w, C w → (∀ i o, l[i]? = some o → φ i (f o) w) → Q .normal (putAll f l a0) w) : (Code.region id l.toArray true).wp P Q a0 w := by
  simp only [Bool.and_eq_true] at hB
  refine wp_region_any hm (wpAny_inv (C := C) (φ := φ) (R := R) (a0 := a0) hB.1.1 hB.1.2 hB.2 hφ hst (fun f w hC h => hQ f w hC (fun i o ho => h i o (by simpa using ho))) _ _ _ w.drew (by simp) (by simp) hC rfl rfl (fun _ _ => rfl) ?_)
  intro i o hi
  simp at hi
  rcases Nat.lt_or_ge i l.length with h | h
  · simp [h] at hi
  · simp [Nat.not_lt.2 h] at hi

/-! What each kind of operation must do. -/
theorem st_val {k : Nat} {o : Oper} {a : Act} {w : World} (v : Value) (hw : Region.wanted o (yielded ops a.tmps) = true) (hd : o.dst = none → v = undef) (hr : (execOp a.eval o).run P w = .ok (.value v) w) (hC : C w) (hv : φ k v w) (hR : R w w) : Step P ops Q C φ R k o a w := by
  unfold Step
  rw [if_pos hw]
  unfold Oper.wp
  rw [hr]
  exact ⟨v, rfl, hC, hv, hR, hd⟩
theorem st_skip {k : Nat} {o : Oper} {a : Act} {w : World} (hw : Region.wanted o (yielded ops a.tmps) = false) (hv : φ k undef w) : Step P ops Q C φ R k o a w := by
  unfold Step
  rw [if_neg (by rw [hw]; exact Bool.false_ne_true)]
  exact hv
theorem st_load {k : Nat} {o : Oper} {a : Act} {w : World} (T : TypeId) (x : Operand) (p v : Value) (ho : o.op = .load T x) (hw : Region.wanted o (yielded ops a.tmps) = true) (hd : o.dst = none → v = undef) (hp : a.eval x = p)
    (hr : (Instr.loadAt T p).run P w = .ok v w) (hC : C w) (hv : φ k v w) (hR : R w w) : Step P ops Q C φ R k o a w :=
  st_val v hw hd (by
    unfold execOp
    rw [ho]
    simp only [hp, Sem.run_bind, hr, Result.andThen_ok, Sem.run_pure]) hC hv hR
theorem st_call {k : Nat} {o : Oper} {a : Act} {w : World} (f : FuncId) (args : Array Value) (hw : Region.wanted o (yielded ops a.tmps) = true) (hd : ∃ d, o.dst = some d) (he : (execOp a.eval o).run P w = .ok (.enter f args) w)
    (hc : Calls P f args w fun e w' => ∃ v, e = .returned v ∧ C w' ∧ φ k v w' ∧ R w w') : Step P ops Q C φ R k o a w := by
  unfold Step
  rw [if_pos hw]
  unfold Oper.wp
  rw [he]
  refine Calls.mono hc ?_
  rintro e w' ⟨v, rfl, h1, h2, h3⟩
  exact ⟨v, rfl, h1, h2, h3, fun h => by obtain ⟨d, hd⟩ := hd; rw [hd] at h; cases h⟩
theorem st_store {k : Nat} {o : Oper} {a : Act} {w w' : World} (hw : Region.wanted o (yielded ops a.tmps) = true) (hr : (execOp a.eval o).run P w = .ok .skip w') (hC : C w') (hv : φ k undef w') (hR : R w w') : Step P ops Q C φ R k o a w := by
  unfold Step
  rw [if_pos hw]
  unfold Oper.wp
  rw [hr]
  exact ⟨undef, rfl, hC, hv, hR, fun _ => rfl⟩
end
end Go.Proofs.Ytgegkffigjogcaa
namespace Go.Proofs.Ytgegkffigjogcaa
open Go.RowKit

/-- A list, so many parts higher. -/
def zsh (g : Nat → Nat) (L : Nat) : Nat → Nat := fun j => if j < L then 0 else g (j - L)
theorem pl_higher (g : Nat → Nat) (L n : Nat) : pl (fun _ => 0) L ++ pl g n = pl (zsh g L) (L + n) := by
  apply List.ext_getElem?
  intro j
  by_cases h : j < L
  · rw [List.getElem?_append_left (by rw [pl_len]; exact h), pl_at _ _ _ h, pl_at _ _ _ (by omega)]
    unfold zsh
    rw [if_pos h]
  · rw [List.getElem?_append_right (by rw [pl_len]; omega), pl_len]
    by_cases h2 : j < L + n
    · rw [pl_at _ _ _ (by omega), pl_at _ _ _ h2]
      unfold zsh
      rw [if_neg h]
    · rw [List.getElem?_eq_none (by rw [pl_len]; omega), List.getElem?_eq_none (by rw [pl_len]; omega)]
theorem zsh_vb (P : Nat) (g : Nat → Nat) (L n : Nat) : vb P (zsh g L) (L + n) = P ^ L * vb P g n := by
  rw [vb_split, vb_zero (fun j hj => by unfold zsh; rw [if_pos hj]), Nat.zero_add]
  congr 1
  refine vb_congr (fun j _ => ?_)
  unfold zsh
  rw [if_neg (by omega), Nat.add_sub_cancel_left]
theorem zsh_lt {g : Nat → Nat} {L n : Nat} (h : ∀ j, j < n → g j < 4294967296) : ∀ j, j < L + n → zsh g L j < 4294967296 := fun j hj => by
  unfold zsh
  by_cases e : j < L
  · rw [if_pos e]; omega
  · rw [if_neg e]; exact h _ (by omega)
theorem own_nn {w : World} {base n : Nat} {v : Value} {f : Nat → Nat} (h : w.ownsRow base 32 1 v n (pl f n)) (hn : 0 < n) (hb : (n : Int) ≤ 35184372088832) (hf : ∀ j, j < n → f j < 4294967296) : NN (vb 4294967296 f n) v w := by
  obtain ⟨g, cap, rfl, hc, hg, hW⟩ := own_wr h hn
  exact ⟨_, n, cap, f, rfl, ⟨hc, hW.rd, fun q hq => by cases hq; exact hW.1, hf, hb⟩, rfl⟩
theorem made_wr {w w0 : World} {L : Nat} (h : w0.ownsRow w.heap.size 32 1 (.slice (some ⟨w.heap.size, 0, none⟩) L L) L (madeCells (Value.int .u32 0).cells (L * 1)).toList) (hg : w.grownBy w0 none) : Wr w0 w.heap.size 0 L (fun _ => 0) ∧ Below w.heap.size w w0 :=
  ⟨⟨(h.lt _ rfl).2, fun j hj => ⟨by rw [Nat.zero_add]; exact (h.cellAt j (by omega)).trans (madeCells32_at L j hj), by rw [Nat.zero_add]; exact h.frozenAt j⟩⟩, (Below.refl _ _).grown hg (Nat.le_refl _) (fun k hk => by cases hk)⟩
def Mk2 (k : Nat) (v : Value) (w : World) : Prop := ∃ S, v = .slice (some ⟨S, 0, none⟩) k k ∧ Wr w S 0 k (fun _ => 0)
theorem Mk2.below {k : Nat} {v : Value} {w w' : World} (h : Mk2 k v w) (hb : Below w.heap.size w w') : Mk2 k v w' := by
  obtain ⟨S, h1, h2⟩ := h
  exact ⟨S, h1, h2.below hb⟩
section
variable {P : Program} {ops : Array Oper} {Q : Exit → Act → World → Prop} {C : World → Prop} {φ : Nat → Value → World → Prop} {R : World → World → Prop}
theorem st_run {k : Nat} {o : Oper} {a : Act} {w w' : World} (v : Value) (hw : Region.wanted o (yielded ops a.tmps) = true) (hd : ∃ d, o.dst = some d) (hr : (execOp a.eval o).run P w = .ok (.value v) w') (hC : C w') (hv : φ k v w') (hR : R w w') : Step P ops Q C φ R k o a w := by
  unfold Step
  rw [if_pos hw]
  unfold Oper.wp
  rw [hr]
  exact ⟨v, rfl, hC, hv, hR, fun h => by obtain ⟨d, hd⟩ := hd; rw [hd] at h; cases h⟩
end
theorem same_below {w w' : World} {m : Nat} (h : w' = w.drewN m) : Below w.heap.size w w' := by rw [h]; exact below_drewN (Below.refl _ _) _
theorem pv_none {v : Value} {w : World} (h : PV 0 v w) : ∃ a c, v = .slice a 0 c := by
  obtain ⟨a, n, c, f, rfl, hn, hv, ht⟩ := h
  rcases Nat.eq_zero_or_pos n with h0 | h0
  · subst h0; exact ⟨a, c, rfl⟩
  · exfalso
    have h1 : n ≤ 0 := (plain_len (P := 4294967296) (m := 0) (by omega) hn.lt ht).1 (by rw [hv]; exact Nat.pow_pos (by omega))
    omega
set_option maxRecDepth 100000 in
set_option maxHeartbeats 4000000 in
theorem shifts_any {w : World} {v0 : Value} {n0 : Nat} {f0 : Nat → Nat} (h0 : ArgN w v0 n0 f0) (l0 : ∀ j, j < n0 → f0 j < 4294967296) (k : Nat) (hk : k < 256) :
    Calls Try.prog 11 #[v0, .int .u8 (k : Nat)] w fun e w' => e = .returned (.bool true) ∧ Below w.heap.size w w' := by
  have F0 := Lib.hid (few_any h0 200 (by omega))
  obtain ⟨m0, e0⟩ : ∃ m, min n0 200 = m := ⟨_, rfl⟩
  rw [e0] at F0
  have OW0 := Lib.hid (fun u w' (hu : ArgN w' u m0 f0) => own_any hu (by omega) (fun j hj => l0 j (by omega)))
  have RP := Lib.hid (fun u w' (hu : ArgN w' u m0 f0) => refplain_any hu (by omega) (fun j hj => l0 j (by omega)))
  have fa : vb 4294967296 f0 m0 < 4294967296 ^ 200 := fit_up (by omega) (by omega) (vb_lt (n := m0) (fun j hj => l0 j (by omega)))
  obtain ⟨A, eA⟩ : ∃ A, vb 4294967296 f0 m0 = A := ⟨_, rfl⟩
  rw [eA] at OW0 fa RP
  obtain ⟨B, eB⟩ : ∃ B, 4294967296 ^ k = B := ⟨_, rfl⟩
  have fb : B < 4294967296 ^ 256 := by
    rw [← eB]
    exact Nat.pow_lt_pow_right (by omega) hk
  have hB0 : 0 < B := by rw [← eB]; exact Nat.pow_pos (by omega)
  have MU := Lib.hid (fun x y w' (hx : NN A x w') (hy : NN B y w') => mul_fit (by omega) fa fb hx hy)
  have fab := fit_mul fa fb
  have ecd : cdD (A * B) B = 0 := by
    unfold cdD cd2
    rw [cd_fit (by omega) fab, if_pos rfl, cd_fit (by omega) fb, if_pos rfl, if_neg (by omega)]
  have DM := Lib.hid (fun x y w' (hx : NN (A * B) x w') (hy : NN B y w') => divmod_api hx hy)
  rw [ecd, Nat.mul_div_cancel _ hB0, Nat.mul_mod_left] at DM
  have FA := Lib.hid fa
  clear e0 eA h0 l0 fa fb fab ecd hB0
  have HEB := Lib.hid eB; clear eB
  have hk0 : (0 : Int) ≤ k := by omega
  have hk1 : (k : Int) < 256 := by omega
  obtain ⟨i0, hi, hz0, hz1, hz2⟩ := info_parts info32
  go_enter Try.func11, Try.ntmps11
  go_wp2_with fail
  refine F0.out.mono ?_
  rintro e w' ⟨u0, rfl, hu, rfl⟩
  have U0 := Lib.hid hu
  clear hu F0
  go_wp2_with (first
    | (at_make; refine wpList_make_full _ rfl _ _ 23 rfl w.heap.size 32 i0 (.int .u32 0) 1 Try.underlying23 hi hz0 hz1 .i64 .i64 _ _ k rfl rfl rfl rfl (by rw [hz2]; omega) (by unfold maxLen; omega) (Nat.le_refl _) ?_; intro w0 hown0 hgrow0; have HW0 := Lib.hid (made_wr hown0 hgrow0); clear hown0 hgrow0)
    | (at_builtin; refine wpList_append_grows _ rfl _ _ 23 rfl 32 i0 (.int .u32 0) 1 4 Try.underlying23 hi hz0 hz1 hz2 rfl (by decide) (some ⟨w.heap.size, 0, none⟩) k k (pl (fun _ => 0) k) rfl (fun h => by cases h) (by rw [pl_len, Nat.mul_one]) ?d1 ⟨w0.heap.size, 0, none⟩ 1 1 [.int .u32 1] rfl rfl ?d2 ?d3 (by omega) ?d4 ?d5 ?_))
  case d1 => exact rd_add (HW0.out.1.rd.below ((Below.refl _ _).alloc (Nat.le_refl _) _))
  case d2 => exact nought_at w0 _ _
  case d3 => intro u hu; simp only [List.mem_cons, List.not_mem_nil, or_false] at hu; subst hu; rfl
  case d4 => unfold maxLen; omega
  case d5 => omega
  intro v' w2 hown hgrow
  have hb2 : Below w0.heap.size w0 w2 := ((Below.refl _ _).alloc (Nat.le_refl _) _).grown hgrow (by simp) (fun k hk => by cases hk)
  rw [show pl (fun _ => 0) k ++ [.int .u32 1] = pl (zsh (fun _ => 1) k) (k + 1) from pl_higher (fun _ => 1) k 1] at hown
  have hnp := own_nn hown (by omega) (by omega) (zsh_lt (fun _ _ => by omega))
  rw [zsh_vb, HEB.out, show B * vb 4294967296 (fun _ => 1) 1 = B by simp [vb]] at hnp
  have HP := Lib.hid hnp
  have HW := Lib.hid (HW0.out.2.trans (hb2.mono HW0.out.2.size))
  replace U0 := Lib.hid (U0.out.below HW.out)
  clear hown hgrow hb2 hnp HW0
  go_wp2_with fail
  refine (OW0.out _ _ U0.out).mono ?_
  rintro e wn ⟨x3, rfl, hx, hb⟩
  replace U0 := Lib.hid (U0.out.below hb)
  replace HP := Lib.hid (HP.out.below hb)
  replace HW := Lib.hid (HW.out.trans (hb.mono HW.out.size))
  have HX := Lib.hid hx
  clear hx hb
  go_wp2_with fail
  refine (MU.out _ _ _ HX.out HP.out).mono ?_
  rintro e wn ⟨x4, rfl, hx', -, hb⟩
  replace U0 := Lib.hid (U0.out.below hb)
  replace HP := Lib.hid (HP.out.below hb)
  replace HW := Lib.hid (HW.out.trans (hb.mono HW.out.size))
  have P6 := Lib.hid (hx' rfl)
  clear hx' hb HX MU OW0
  rename_i w4
  obtain ⟨w5, hw5⟩ : ∃ w5, wn.alloc (.cells #[] 32) = w5 := ⟨_, rfl⟩
  have hb : Below wn.heap.size wn w5 := by rw [← hw5]; exact (Below.refl _ _).alloc (Nat.le_refl _) _
  have hsz : wn.heap.size < w5.heap.size := by rw [← hw5]; simp
  replace U0 := Lib.hid (U0.out.below hb)
  replace HP := Lib.hid (HP.out.below hb)
  replace P6 := Lib.hid (P6.out.below hb)
  replace HW := Lib.hid (HW.out.trans (hb.mono HW.out.size))
  have HSZ := Lib.hid hsz
  clear hb hsz
  obtain ⟨g5, hg5⟩ : ∃ g5, wn.heap.size = g5 := ⟨_, rfl⟩
  rw [hg5] at HSZ
  go_wp2_with fail
  clear hw5 hg5
  refine (RP.out _ _ U0.out).mono ?_
  rintro e w6 ⟨v6, rfl, hv6, hb⟩
  obtain ⟨a6, n6, c6, f6, rfl, ha6, hav6, hat6⟩ := hv6
  replace U0 := Lib.hid (U0.out.below hb)
  replace HP := Lib.hid (HP.out.below hb)
  replace P6 := Lib.hid (P6.out.below hb)
  replace HW := Lib.hid (HW.out.trans (hb.mono HW.out.size))
  replace HSZ := Lib.hid (Nat.lt_of_lt_of_le HSZ.out hb.size)
  clear hb
  rcases Nat.eq_zero_or_pos n6 with hn6 | hn6
  · subst hn6
    have hA : A = 0 := by rw [← hav6]; rfl
    have h8 : PV (A * B) (.slice (some ⟨g5, 0, none⟩) 0 0) w6 := by rw [hA, Nat.zero_mul]; exact ⟨_, 0, 0, fun _ => 0, rfl, ⟨Nat.le_refl _, .inl rfl, fun q hq => by cases hq; exact HSZ.out, fun j hj => by omega, by omega⟩, rfl, .inl rfl⟩
    have P8 := Lib.hid h8
    clear h8 hA hat6 hav6 ha6 HSZ
    go_wp2_with fail
    refine (DM.out _ _ _ P6.out.nn HP.out).mono ?_
    rintro e wn ⟨x9, x10, rfl, hx', -, hb⟩
    replace U0 := Lib.hid (U0.out.below hb)
    replace P6 := Lib.hid (P6.out.below hb)
    replace P8 := Lib.hid (P8.out.below hb)
    replace HW := Lib.hid (HW.out.trans (hb.mono HW.out.size))
    have P9 := Lib.hid (hx' rfl).1
    obtain ⟨a10, c10, rfl⟩ := pv_none (hx' rfl).2
    clear hx' hb DM HP
    go_wp2_with fail
    refine (same_any P6.out P8.out).mono ?_
    rintro e wn ⟨rfl, mm, hm⟩
    have hb := same_below hm
    clear hm
    replace U0 := Lib.hid (U0.out.below hb)
    replace P9 := Lib.hid (P9.out.below hb)
    replace HW := Lib.hid (HW.out.trans (hb.mono HW.out.size))
    clear hb P6 P8
    go_wp2_with fail
    refine (RP.out _ _ U0.out).mono ?_
    rintro e wn ⟨x11, rfl, hx, hb⟩
    replace P9 := Lib.hid (P9.out.below hb)
    replace HW := Lib.hid (HW.out.trans (hb.mono HW.out.size))
    have P11 := Lib.hid hx
    clear hx hb U0 RP
    go_wp2_with fail
    refine (same_any P9.out P11.out).mono ?_
    rintro e wn ⟨rfl, mm, hm⟩
    have hb := same_below hm
    clear hm
    replace HW := Lib.hid (HW.out.trans (hb.mono HW.out.size))
    clear hb P9 P11
    go_wp2_with fail
    refine (lives_any _).mono ?_
    rintro e wn ⟨rfl, hb⟩
    replace HW := Lib.hid (HW.out.trans (hb.mono HW.out.size))
    clear hb
    go_wp2
    go_ret
    exact ⟨rfl, HW.out⟩
  · have hn60 : (0 : Int) < n6 := by omega
    clear HSZ
    have P7 := Lib.hid (And.intro hn6 (And.intro ha6 (And.intro hav6 hat6)))
    clear hn6 ha6 hav6 hat6
    have hA0 : A ≠ 0 := by
      intro h
      obtain ⟨h1, h2, h3, h4⟩ := P7.out
      have h5 : n6 ≤ 0 := (plain_len (P := 4294967296) (m := 0) (by omega) h2.lt h4).1 (by rw [h3, h]; exact Nat.pow_pos (by omega))
      omega
    have HA0 := Lib.hid hA0
    clear hA0 P7
    go_wp2_with fail
    refine region_inv (P := Try.prog) (fun wx => Below w6.heap.size w6 wx) (fun i v wx => match i with | 0 => v = .int .u8 (k : Nat) | 1 => v = .int .i64 (k : Nat) | 2 => Mk2 k v wx | 3 => v = u0 | 4 => PV A v wx | 5 => PV (A * B) v wx | 6 => PV (A * B) v wx | _ => True) (fun wa wb => Below wa.heap.size wa wb) (by kernel_rfl) (by kernel_rfl) ?_ ?_ ?_ ?_
    · exact (Below.refl _ _).drew
    · intro i v wa wb hR h
      match i, h with
      | 0, h => exact h
      | 1, h => exact h
      | 2, h => exact Mk2.below h hR
      | 3, h => exact h
      | 4, h => exact PV.below h hR
      | 5, h => exact PV.below h hR
      | 6, h => exact PV.below h hR
      | _ + 7, _ => trivial
    · refine ⟨fun a wx hC hK => ?_, fun a wx hC hK => ?_, fun a wx hC hK => ?_, fun a wx hC hK => ?_, fun a wx hC hK => ?_, fun a wx hC hK => ?_, fun a wx hC hK => ?_, trivial⟩
      · exact st_val (a.tmps.getD 1 undef) (by kernel_rfl) (fun h => by cases h) rfl hC (hK.1 1 (by kernel_rfl)) (Below.refl _ _)
      · have h0 : a.tmps.getD 33 undef = .int .u8 (k : Nat) := hK.2 ⟨0, .data⟩ (by simp) rfl _ rfl
        refine st_val (.int .i64 (k : Nat)) (by kernel_rfl) (fun h => by cases h) ?_ hC rfl (Below.refl _ _)
        show (do let v ← convert 5 3 (a.tmps.getD 33 undef); pure (Next.value v) : Sem Next).run Try.prog wx = _
        rw [h0]
        have hwk : IntKind.i64.wrap ((k : Nat) : Int) = ((k : Nat) : Int) := by
          rw [IntKind.wrap_i64]; omega
        go_simp
      · have h0 : a.tmps.getD 34 undef = .int .i64 (k : Nat) := hK.2 ⟨1, .data⟩ (by simp) rfl _ rfl
        obtain ⟨w', hrun, hown, hgrow⟩ := run_make_full (P := Try.prog) wx wx.heap.size 23 32 i0 (.int .u32 0) 1 Try.underlying23 hi hz0 hz1 .i64 .i64 k (by rw [hz2]; omega) (by unfold maxLen; omega) (Nat.le_refl _)
        have hmw := made_wr hown hgrow
        refine st_run _ (by kernel_rfl) ⟨_, rfl⟩ ?_ (hC.trans (hmw.2.mono hC.size)) ⟨_, rfl, hmw.1⟩ hmw.2
        show (do let v ← Instr.makeSlice 23 (a.tmps.getD 34 undef) (a.tmps.getD 34 undef); pure (Next.value v) : Sem Next).run Try.prog wx = _
        rw [h0]
        simp only [Sem.run_bind, hrun, Result.andThen_ok, Sem.run_pure]
      · exact st_val (a.tmps.getD 0 undef) (by kernel_rfl) (fun h => by cases h) rfl hC (hK.1 0 (by kernel_rfl)) (Below.refl _ _)
      · have h0 : a.tmps.getD 36 undef = u0 := hK.2 ⟨3, .data⟩ (by simp) rfl _ rfl
        refine st_call 25 #[a.tmps.getD 36 undef] (by kernel_rfl) ⟨_, rfl⟩ (by kernel_rfl) ?_
        rw [h0]
        refine (RP.out _ wx (U0.out.below hC)).mono ?_
        rintro e w' ⟨v, rfl, hv, hb⟩
        exact ⟨v, rfl, hC.trans (hb.mono hC.size), hv, hb⟩
      · obtain ⟨S, h0, hWS⟩ : Mk2 k (a.tmps.getD 35 undef) wx := hK.2 ⟨2, .data⟩ (by simp) rfl _ rfl
        obtain ⟨b, n, c, f, h1, hn, hv, ht⟩ : PV A (a.tmps.getD 37 undef) wx := hK.2 ⟨4, .data⟩ (by simp) rfl _ rfl
        have hn2 : n ≤ 200 := (plain_len (by omega) hn.lt ht).1 (by rw [hv]; exact FA.out)
        have hn0 : n ≠ 0 := fun h => HA0.out (by rw [← hv, h]; rfl)
        obtain ⟨bb, oo, rfl, hpt⟩ := hn.rd.resolve_left hn0
        obtain ⟨v', w', hrun, hown, hgrow⟩ := run_append_arg_grows (P := Try.prog) wx 23 23 32 i0 (.int .u32 0) 1 4 Try.underlying23 hi hz0 hz1 hz2 rfl (by decide) ⟨S, 0, none⟩ k k (pl (fun _ => 0) k) (by rw [pl_len, Nat.mul_one]) (rd_add hWS.rd _ rfl) ⟨bb, oo, none⟩ n c (pl f n) (by rw [pl_len, Nat.mul_one]) (rd_add hn.rd _ rfl) (by omega) (by unfold maxLen; omega) (by omega)
        rw [pl_higher] at hown
        have hb : Below wx.heap.size wx w' := (Below.refl _ _).grown hgrow (Nat.le_refl _) (fun k hk => by cases hk)
        obtain ⟨g, cap, rfl, hcap, -, hWg⟩ := own_wr hown (by omega)
        refine st_run _ (by kernel_rfl) ⟨_, rfl⟩ ?_ (hC.trans (hb.mono hC.size)) ⟨_, k + n, cap, zsh f k, rfl, ⟨hcap, hWg.rd, fun q hq => by cases hq; exact hWg.1, zsh_lt hn.lt, by omega⟩, by rw [zsh_vb, HEB.out, hv, Nat.mul_comm], .inr ?_⟩ hb
        · have hs : a.eval (.tmp 35) = .slice (some ⟨S, 0, none⟩) k k := h0
          have hx : a.eval (.tmp 37) = .slice (some ⟨bb, oo, none⟩) n c := h1
          simp [execOp, resolve, invoke, builtin, hs, hx, hrun, Result.andThen]
        · unfold zsh
          rw [if_neg (by omega), show k + n - 1 - k = n - 1 by omega]
          exact ht.resolve_left hn0
      · exact st_val (a.tmps.getD 38 undef) (by kernel_rfl) (fun h => by cases h) rfl hC (hK.2 ⟨5, .data⟩ (by simp) rfl _ rfl) (Below.refl _ _)
    · intro fv wx hC h
      have hb : Below w6.heap.size w6 wx := hC
      have h8 := h 6 _ rfl
      replace U0 := Lib.hid (U0.out.below hb)
      replace HP := Lib.hid (HP.out.below hb)
      replace P6 := Lib.hid (P6.out.below hb)
      replace HW := Lib.hid (HW.out.trans (hb.mono HW.out.size))
      clear h hC hb FA HA0
      revert h8
      simp only [putAll, Act.put, List.setIfInBounds_toArray, List.set_cons_succ, List.set_cons_zero]
      generalize fv _ = y1
      generalize fv _ = y2
      generalize fv _ = y3
      generalize fv _ = y4
      generalize fv _ = y5
      generalize fv _ = y6
      generalize fv _ = y7
      intro h8
      have P8 : Hid (PV (A * B) _ wx) := Lib.hid h8
      clear h8
      try simp only [Exit.then]
      go_wp2_with fail
      refine (DM.out _ _ _ P6.out.nn HP.out).mono ?_
      rintro e wn ⟨x9, x10, rfl, hx', -, hb⟩
      replace U0 := Lib.hid (U0.out.below hb)
      replace P6 := Lib.hid (P6.out.below hb)
      replace P8 := Lib.hid (P8.out.below hb)
      replace HW := Lib.hid (HW.out.trans (hb.mono HW.out.size))
      have P9 := Lib.hid (hx' rfl).1
      obtain ⟨a10, c10, rfl⟩ := pv_none (hx' rfl).2
      clear hx' hb DM HP
      go_wp2_with fail
      refine (same_any P6.out P8.out).mono ?_
      rintro e wn ⟨rfl, mm, hm⟩
      have hb := same_below hm
      clear hm
      replace U0 := Lib.hid (U0.out.below hb)
      replace P9 := Lib.hid (P9.out.below hb)
      replace HW := Lib.hid (HW.out.trans (hb.mono HW.out.size))
      clear hb P6 P8
      go_wp2_with fail
      refine (RP.out _ _ U0.out).mono ?_
      rintro e wn ⟨x11, rfl, hx, hb⟩
      replace P9 := Lib.hid (P9.out.below hb)
      replace HW := Lib.hid (HW.out.trans (hb.mono HW.out.size))
      have P11 := Lib.hid hx
      clear hx hb U0 RP
      go_wp2_with fail
      refine (same_any P9.out P11.out).mono ?_
      rintro e wn ⟨rfl, mm, hm⟩
      have hb := same_below hm
      clear hm
      replace HW := Lib.hid (HW.out.trans (hb.mono HW.out.size))
      clear hb P9 P11
      go_wp2_with fail
      refine (lives_any _).mono ?_
      rintro e wn ⟨rfl, hb⟩
      replace HW := Lib.hid (HW.out.trans (hb.mono HW.out.size))
      clear hb
      go_wp2
      go_ret
      exact ⟨rfl, HW.out⟩
end Go.Proofs.Ytgegkffigjogcaa
namespace Go.Proofs.Ytgegkffigjogcaa
open Go.RowKit

theorem run_append_own_zeros {P : Program} {w : World} (base : Nat) (t tn ty e : TypeId) (i : TypeInfo) (z : Value) (bytes : Nat) (kq kn : IntKind) (ht : P.underlying t = some (.slice e)) (htn : P.underlying tn = some (.int kn)) (hi : P.info? e = some i) (hz : i.zero = some z)
    (hsize : i.size = 1) (hby : i.bytes = bytes) (hzs : z.cells = #[z]) (hz1 : z.oneCell' = true) (g n cap : Nat) (xs : List Value) (hown : w.ownsRow base e 1 (.slice (some ⟨g, 0, none⟩) n cap) n xs)
    (k : Nat) (h63 : n + k ≤ maxLen) (hbytes : (n + k) * bytes ≤ 140737488355328) (hbase : base ≤ w.heap.size) :
    ∃ g' cap' w', (Builtin.append_ #[t, tn] ty #[.slice (some ⟨g, 0, none⟩) n cap, .int kq k]).run P w = .ok (.slice (some ⟨g', 0, none⟩) (n + k) cap') w' ∧ w'.ownsRow base e 1 (.slice (some ⟨g', 0, none⟩) (n + k) cap') (n + k) (xs ++ List.replicate k z) ∧ w.grownBy w' (some g) := by
  have hzc : ∀ m, (Builtin.zeroCells z.cells m).toList = List.replicate m z := by
    intro m
    rw [hzs]
    apply List.ext_getElem
    · simp [Builtin.zeroCells]
    · intro j h1 h2
      simp [Builtin.zeroCells, Nat.mod_one]
  have hzn : ∀ m, (Builtin.zeroCells z.cells m).size = m := fun m => by rw [← Array.length_toList, hzc, List.length_replicate]
  have hxl : xs.length = n := by have := hown.1; omega
  subst hby
  rcases hown.2 with ⟨h, -⟩ | ⟨g2, cap2, cur, hv, hbg, hg, hnc, hcm, hcs, htake⟩
  · cases h
  injection hv with h1 h2 h3
  injection h1 with h1
  injection h1 with h1
  subst h1
  subst h3
  clear h2
  rw [Nat.mul_one] at hcs htake
  have hm : n + k ≤ 9223372036854775807 := by simp only [maxLen] at h63; omega
  by_cases hroom : n + k ≤ cap
  · have h0 : (0 : Int) ≤ k := by omega
    have hw : IntKind.i64.wrap (k : Int) = k := by rw [IntKind.wrap_i64]; omega
    have hneg : ¬ ((k : Int) < 0) := by omega
    have hfits : ¬ (281474976710656 < (k : Int) * (i.bytes : Int)) := by
      rw [← Int.natCast_mul]
      have : k * i.bytes ≤ (n + k) * i.bytes := Nat.mul_le_mul_right _ (by omega)
      omega
    have hst := run_storeCells_at P g (n * i.size) e (List.replicate k z) 0 cur w hg (by rw [List.length_replicate, hsize, hcs]; omega) (fun u hu => by rw [(List.mem_replicate.1 hu).2]; exact hz1)
    simp only [Nat.add_zero] at hst
    refine ⟨g, cap, w.setRow g (cur.toList.take (n * i.size) ++ List.replicate k z ++ cur.toList.drop (n * i.size + (List.replicate k z).length)).toArray, ?_, ?_, ?_⟩
    · by_cases hk : k = 0
      · subst hk
        simp only [List.replicate_zero] at hst ⊢
        have hroom' : n ≤ cap := hroom
        simp [Builtin.append_, run_underlying ht, run_underlying htn, sizeOf, typeInfo, hi, asInt, asIntOf, IntKind.wrap_i64, hroom', Addr.add_lit, hst]
      · have hns : ¬ (k * i.size = 0) := by rw [hsize]; omega
        simp [Builtin.append_, run_underlying ht, run_underlying htn, sizeOf, typeInfo, zeroValue, hi, hz, asInt, asIntOf, hw, hneg, hns, hfits, hroom, Addr.add_lit, hzc, hst]
    · refine ⟨by simp [hxl], .inr ⟨g, cap, _, rfl, hbg, setRow_heap w g cur _ e _ hg, hroom, hcm, ?_, ?_⟩⟩
      · simp only [List.size_toArray, List.length_append, List.length_take, List.length_drop, Array.length_toList, List.length_replicate, hsize]
        omega
      · rw [hsize, Nat.mul_one, Nat.mul_one, htake]
        have : n + k = (xs ++ List.replicate k z).length := by simp [hxl]
        rw [this]
        exact List.take_left
    · exact ⟨rfl, rfl, rfl, by simp, fun j _ hj => setRow_other w g j _ (fun e => hj (by simp [e]))⟩
  · have hk : 0 < k := by omega
    have holds : ∀ j u, xs[j]? = some u → w.cell? ((⟨g, 0, none⟩ : Addr).add j) = some u := hown.cells (g := g) rfl
    have hold := run_firstCells_some (P := P) w.drew i.size n ⟨g, 0, none⟩ n cap xs (by rw [hsize]; omega) (fun j u h => (holds j u h))
    have hgs := growslice_fits (need := n + k) (old := cap) (bytes := i.bytes) (by omega) hbytes
    have hr := Go.Lib.run_append_grow_zeros (P := P) w t tn ty e i z kq kn ht htn hi hz (some ⟨g, 0, none⟩) n cap xs hold k hk (by omega) (by omega) (by omega) (by
      have : k * i.bytes ≤ (n + k) * i.bytes := Nat.mul_le_mul_right _ (by omega)
      omega) hgs
    have hge := grownCap_ge w (n + k) cap e
    have hcm' : grownCap w (n + k) cap e ≤ maxLen := grownCap_le_maxLen w (n + k) cap e h63
    refine ⟨_, _, _, hr, ⟨by simp [hxl], .inr ⟨w.heap.size, _, _, rfl, hbase, heap_alloc_new w.drew _, hge, hcm', ?_, ?_⟩⟩, ⟨rfl, rfl, rfl, by simp, fun j hj _ => heap_alloc_old w.drew _ hj⟩⟩
    · simp only [Array.size_append, List.size_toArray, hzn, hxl]
      omega
    · simp only [Array.toList_append, List.append_assoc, hzc]
      rw [← List.append_assoc, Nat.mul_one]
      have : n + k = (xs ++ List.replicate k z).length := by simp [hxl]
      rw [this]
      exact List.take_left
/-- What own leaves: a row of its own. -/
def MkR (n : Nat) (f : Nat → Nat) (w : World) (e : Ending) (w' : World) : Prop :=
  ∃ g cap, e = .returned (.slice (some ⟨g, 0, none⟩) n cap) ∧ w'.ownsRow w.heap.size 32 1 (.slice (some ⟨g, 0, none⟩) n cap) n (pl f n) ∧ Below w.heap.size w w'
theorem mk_row {w w' : World} {n : Nat} {v : Value} {f : Nat → Nat} (h : w'.ownsRow w.heap.size 32 1 v n (pl f n)) (hn : v ≠ .slice none 0 0) (hw : Below w.heap.size w w') : MkR n f w (.returned v) w' := by
  rcases h.2 with ⟨rfl, -⟩ | ⟨g, cap, cur, rfl, -⟩
  · exact absurd rfl hn
  · exact ⟨g, cap, rfl, h, hw⟩
set_option maxRecDepth 100000 in
set_option maxHeartbeats 1000000 in
theorem ownr_some (b o n cap : Nat) (f : Nat → Nat) (hn : (n : Int) ≤ 35184372088832) (w : World) (hP : Pt w b o n f) : Calls Try.prog 13 #[.slice (some ⟨b, o, none⟩) n cap] w (MkR n f w) := by
  have HP := Lib.hid hP; clear hP
  obtain ⟨i0, hi, hz0, hz1, hz2⟩ := info_parts info32
  go_enter Try.func13, Try.ntmps13
  go_wp2_with (at_builtin; refine wpList_append_own _ rfl _ _ 23 rfl w.heap.size 32 i0 (.int .u32 0) 1 4 Try.underlying23 hi hz0 hz1 hz2 rfl (by decide) _ 0 [] rfl (World.ownsRow_made (base := w.heap.size) (e := 32) (size := 1) w #[] 0 (by simp) (by decide) (by simp)) ⟨b, o, none⟩ n cap (pl f n) rfl (by rw [pl_len, Nat.mul_one]) ?c1 ?c2 ?c3 ?c4 ?c5 ?_)
  case c1 => exact news_pl (HP.out.below ((Below.refl _ _).alloc (Nat.le_refl _) _))
  case c2 => exact one_pl f n
  case c3 => unfold maxLen; omega
  case c4 => omega
  case c5 => simp
  intro v' w1 hown' hgrow hnn
  have HF := Lib.hid (mk_row (w := w) hown' hnn (((Below.refl _ _).alloc (Nat.le_refl _) _).grown hgrow (by simp) (fun j hj => by cases hj; exact Nat.le_refl _)))
  clear hown' hgrow hnn
  go_wp2
  go_ret
  exact HF.out
set_option maxRecDepth 100000 in
set_option maxHeartbeats 1000000 in
theorem ownr_void (a : Addr) (cap : Nat) (f : Nat → Nat) (w : World) : Calls Try.prog 13 #[.slice (some a) 0 cap] w (MkR 0 f w) := by
  obtain ⟨i0, hi, hz0, hz1, hz2⟩ := info_parts info32
  go_enter Try.func13, Try.ntmps13
  go_wp2_with (at_builtin; refine wpList_append_own _ rfl _ _ 23 rfl w.heap.size 32 i0 (.int .u32 0) 1 4 Try.underlying23 hi hz0 hz1 hz2 rfl (by decide) _ 0 [] rfl (World.ownsRow_made (base := w.heap.size) (e := 32) (size := 1) w #[] 0 (by simp) (by decide) (by simp)) a 0 cap (pl f 0) rfl (by rw [pl_len, Nat.mul_one]) ?c1 ?c2 ?c3 ?c4 ?c5 ?_)
  case c1 => intro j u hj; simp [pl] at hj
  case c2 => exact one_pl f 0
  case c3 => unfold maxLen; omega
  case c4 => omega
  case c5 => simp
  intro v' w1 hown' hgrow hnn
  have HF := Lib.hid (mk_row (w := w) hown' hnn (((Below.refl _ _).alloc (Nat.le_refl _) _).grown hgrow (by simp) (fun j hj => by cases hj; exact Nat.le_refl _)))
  clear hown' hgrow hnn
  go_wp2
  go_ret
  exact HF.out
set_option maxRecDepth 100000 in
set_option maxHeartbeats 1000000 in
theorem ownr_nil (f : Nat → Nat) (w : World) : Calls Try.prog 13 #[.slice none 0 0] w (MkR 0 f w) := by
  obtain ⟨i0, hi, hz0, hz1, hz2⟩ := info_parts info32
  go_enter Try.func13, Try.ntmps13
  go_wp2_with (at_builtin; refine wpList_append_own_none rfl _ _ 23 rfl w.heap.size 32 i0 1 Try.underlying23 hi _ 0 [] rfl (World.ownsRow_made (base := w.heap.size) (e := 32) (size := 1) w #[] 0 (by simp) (by decide) (by simp)) rfl ?_)
  go_wp2
  go_ret
  exact ⟨_, 0, rfl, World.ownsRow_made (base := w.heap.size) (e := 32) (size := 1) w #[] 0 (by simp) (by decide) (by simp), by go_grown⟩
theorem ownr_any {w : World} {v : Value} {n : Nat} {f : Nat → Nat} (h : ArgN w v n f) (hn : (n : Int) ≤ 35184372088832) : Calls Try.prog 13 #[v] w (MkR n f w) := by
  obtain ⟨a, cap, rfl, hc, hn0, hr⟩ := h
  cases a with
  | none =>
    have h0 := hn0 rfl
    subst h0
    obtain rfl : n = 0 := by omega
    exact ownr_nil f w
  | some q =>
    rcases hr with rfl | ⟨b, o, e, hp⟩
    · exact ownr_void q cap f w
    · injection e with e
      subst e
      exact ownr_some b o n cap f hn w hp
end Go.Proofs.Ytgegkffigjogcaa

/- bailiwicklaw02.NatRing: whatever the three lists: true. -/
import Derived.Test.YtgegkffigjogcaaNLives
import Derived.Test.YtgegkffigjogcaaNMul
namespace Go.Proofs.Ytgegkffigjogcaa
open Go.RowKit

theorem fit_up {B k j x : Nat} (hB : 0 < B) (h : k ≤ j) (hx : x < B ^ k) : x < B ^ j := Nat.lt_of_lt_of_le hx (Nat.pow_le_pow_right hB h)
theorem fit_add {B k x y : Nat} (hB : 2 ≤ B) (hx : x < B ^ k) (hy : y < B ^ k) : x + y < B ^ (k + 1) := by
  rw [Nat.pow_succ]
  have := Nat.mul_le_mul_left (B ^ k) hB
  omega
theorem fit_mul {B k j x y : Nat} (hx : x < B ^ k) (hy : y < B ^ j) : x * y < B ^ (k + j) := by
  rw [Nat.pow_add]
  exact Nat.mul_lt_mul_of_lt_of_lt hx hy
theorem lim_is2 : ∃ K : Nat, K = 1024 ∧ LIM = 4294967296 ^ K := ⟨1024, rfl, by unfold LIM; rfl⟩
theorem cd_fit {k x : Nat} (hk : k ≤ 1024) (h : x < 4294967296 ^ k) : cdN x = 0 := by
  obtain ⟨K, hK, e⟩ := lim_is2
  have h2 := fit_up (j := K) (by omega) (by omega) h
  unfold cdN
  rw [e, if_neg (Nat.not_le.2 h2)]
theorem add_fit {A B k : Nat} (hk : k < 1024) (hA : A < 4294967296 ^ k) (hB : B < 4294967296 ^ k) {va vb' : Value} {w : World} (h0 : NN A va w) (h1 : NN B vb' w) : Calls Try.prog 12 #[va, vb'] w (Ans 0 (A + B) w) := by
  have h := add_api h0 h1
  have e2 : cd2 A B = 0 := by unfold cd2; rw [if_pos (cd_fit (by omega) hA), cd_fit (by omega) hB]
  have e : cdAdd A B = 0 := by unfold cdAdd; rw [if_pos e2, cd_fit (k := k + 1) (by omega) (fit_add (by omega) hA hB)]
  rwa [e] at h
theorem mul_fit {A B k j : Nat} (hk : k + j < 1024) (hA : A < 4294967296 ^ k) (hB : B < 4294967296 ^ j) {va vb' : Value} {w : World} (h0 : NN A va w) (h1 : NN B vb' w) : Calls Try.prog 19 #[va, vb'] w (Ans 0 (A * B) w) := by
  have h := mul_api h0 h1
  have e2 : cd2 A B = 0 := by unfold cd2; rw [if_pos (cd_fit (by omega) hA), cd_fit (by omega) hB]
  have e : cdMul A B = 0 := by unfold cdMul; rw [if_pos e2, cd_fit (k := k + j) (by omega) (fit_mul hA hB)]
  rwa [e] at h
set_option maxRecDepth 100000 in
set_option maxHeartbeats 4000000 in
theorem ring_any {w : World} {v0 v1 v2 : Value} {n0 n1 n2 : Nat} {f0 f1 f2 : Nat → Nat} (h0 : ArgN w v0 n0 f0) (h1 : ArgN w v1 n1 f1) (h2 : ArgN w v2 n2 f2)
    (l0 : ∀ j, j < n0 → f0 j < 4294967296) (l1 : ∀ j, j < n1 → f1 j < 4294967296) (l2 : ∀ j, j < n2 → f2 j < 4294967296) :
    Calls Try.prog 9 #[v0, v1, v2] w fun e w' => e = .returned (.bool true) ∧ Below w.heap.size w w' := by
  have F0 := Lib.hid (few_any h0 40 (by omega))
  have F1 := Lib.hid (few_any h1 40 (by omega))
  have F2 := Lib.hid (few_any h2 40 (by omega))
  obtain ⟨m0, e0⟩ : ∃ m, min n0 40 = m := ⟨_, rfl⟩
  obtain ⟨m1, e1⟩ : ∃ m, min n1 40 = m := ⟨_, rfl⟩
  obtain ⟨m2, e2⟩ : ∃ m, min n2 40 = m := ⟨_, rfl⟩
  rw [e0] at F0
  rw [e1] at F1
  rw [e2] at F2
  have OW0 := Lib.hid (fun u w' (hu : ArgN w' u m0 f0) => own_any hu (by omega) (fun j hj => l0 j (by omega)))
  have OW1 := Lib.hid (fun u w' (hu : ArgN w' u m1 f1) => own_any hu (by omega) (fun j hj => l1 j (by omega)))
  have OW2 := Lib.hid (fun u w' (hu : ArgN w' u m2 f2) => own_any hu (by omega) (fun j hj => l2 j (by omega)))
  have fa : vb 4294967296 f0 m0 < 4294967296 ^ 40 := fit_up (by omega) (by omega) (vb_lt (n := m0) (fun j hj => l0 j (by omega)))
  have fb : vb 4294967296 f1 m1 < 4294967296 ^ 40 := fit_up (by omega) (by omega) (vb_lt (n := m1) (fun j hj => l1 j (by omega)))
  have fc : vb 4294967296 f2 m2 < 4294967296 ^ 40 := fit_up (by omega) (by omega) (vb_lt (n := m2) (fun j hj => l2 j (by omega)))
  obtain ⟨A, eA⟩ : ∃ A, vb 4294967296 f0 m0 = A := ⟨_, rfl⟩
  obtain ⟨B, eB⟩ : ∃ B, vb 4294967296 f1 m1 = B := ⟨_, rfl⟩
  obtain ⟨C, eC⟩ : ∃ C, vb 4294967296 f2 m2 = C := ⟨_, rfl⟩
  rw [eA] at OW0 fa
  rw [eB] at OW1 fb
  rw [eC] at OW2 fc
  clear e0 e1 e2 eA eB eC h0 h1 h2 l0 l1 l2
  have fac := fit_mul fa fc
  have fbc := fit_mul fb fc
  have fs := fit_add (by omega) fa fb
  have AD01 := Lib.hid (fun x y w' (hx : NN A x w') (hy : NN B y w') => add_fit (by omega) fa fb hx hy)
  have AD10 := Lib.hid (fun x y w' (hx : NN B x w') (hy : NN A y w') => add_fit (by omega) fb fa hx hy)
  have MU01 := Lib.hid (fun x y w' (hx : NN A x w') (hy : NN B y w') => mul_fit (by omega) fa fb hx hy)
  have MU10 := Lib.hid (fun x y w' (hx : NN B x w') (hy : NN A y w') => mul_fit (by omega) fb fa hx hy)
  have MUS := Lib.hid (fun x y w' (hx : NN (A + B) x w') (hy : NN C y w') => mul_fit (by omega) fs fc hx hy)
  have MU02 := Lib.hid (fun x y w' (hx : NN A x w') (hy : NN C y w') => mul_fit (by omega) fa fc hx hy)
  have MU12 := Lib.hid (fun x y w' (hx : NN B x w') (hy : NN C y w') => mul_fit (by omega) fb fc hx hy)
  have ADM := Lib.hid (fun x y w' (hx : NN (A * C) x w') (hy : NN (B * C) y w') => add_fit (by omega) fac fbc hx hy)
  clear fa fb fc fac fbc fs
  have HW : Hid (Below w.heap.size w w) := Lib.hid (Below.refl _ _)
  go_enter Try.func9, Try.ntmps9
  go_wp2_with fail
  refine F0.out.mono ?_
  rintro e w' ⟨u0, rfl, hu, rfl⟩
  have U0 := Lib.hid hu
  clear hu F0
  go_wp2_with fail
  refine F1.out.mono ?_
  rintro e w' ⟨u1, rfl, hu, rfl⟩
  have U1 := Lib.hid hu
  clear hu F1
  go_wp2_with fail
  refine F2.out.mono ?_
  rintro e w' ⟨u2, rfl, hu, rfl⟩
  have U2 := Lib.hid hu
  clear hu F2
  go_wp2_with fail
  refine (OW0.out _ _ U0.out).mono ?_
  rintro e w1 ⟨x1, rfl, hx, hb⟩
  replace U0 := Lib.hid (U0.out.below hb)
  replace U1 := Lib.hid (U1.out.below hb)
  replace U2 := Lib.hid (U2.out.below hb)
  replace HW := Lib.hid (HW.out.trans (hb.mono HW.out.size))
  have OA := Lib.hid hx
  clear hb hx
  go_wp2_with fail
  refine (OW1.out _ _ U1.out).mono ?_
  rintro e w2 ⟨x2, rfl, hx, hb⟩
  replace U0 := Lib.hid (U0.out.below hb)
  replace U1 := Lib.hid (U1.out.below hb)
  replace U2 := Lib.hid (U2.out.below hb)
  replace OA := Lib.hid (OA.out.below hb)
  replace HW := Lib.hid (HW.out.trans (hb.mono HW.out.size))
  have OB := Lib.hid hx
  clear hb hx
  go_wp2_with fail
  refine (AD01.out _ _ _ OA.out OB.out).mono ?_
  rintro e w3 ⟨x3, rfl, hx', -, hb⟩
  have hx := hx' rfl
  clear hx'
  replace U0 := Lib.hid (U0.out.below hb)
  replace U1 := Lib.hid (U1.out.below hb)
  replace U2 := Lib.hid (U2.out.below hb)
  replace OA := Lib.hid (OA.out.below hb)
  replace OB := Lib.hid (OB.out.below hb)
  replace HW := Lib.hid (HW.out.trans (hb.mono HW.out.size))
  have P7 := Lib.hid hx
  clear hb hx
  clear OA
  clear OB
  go_wp2_with fail
  refine (OW1.out _ _ U1.out).mono ?_
  rintro e w4 ⟨x4, rfl, hx, hb⟩
  replace U0 := Lib.hid (U0.out.below hb)
  replace U1 := Lib.hid (U1.out.below hb)
  replace U2 := Lib.hid (U2.out.below hb)
  replace P7 := Lib.hid (P7.out.below hb)
  replace HW := Lib.hid (HW.out.trans (hb.mono HW.out.size))
  have OA := Lib.hid hx
  clear hb hx
  go_wp2_with fail
  refine (OW0.out _ _ U0.out).mono ?_
  rintro e w5 ⟨x5, rfl, hx, hb⟩
  replace U0 := Lib.hid (U0.out.below hb)
  replace U1 := Lib.hid (U1.out.below hb)
  replace U2 := Lib.hid (U2.out.below hb)
  replace P7 := Lib.hid (P7.out.below hb)
  replace OA := Lib.hid (OA.out.below hb)
  replace HW := Lib.hid (HW.out.trans (hb.mono HW.out.size))
  have OB := Lib.hid hx
  clear hb hx
  go_wp2_with fail
  refine (AD10.out _ _ _ OA.out OB.out).mono ?_
  rintro e w6 ⟨x6, rfl, hx', -, hb⟩
  have hx := hx' rfl
  clear hx'
  replace U0 := Lib.hid (U0.out.below hb)
  replace U1 := Lib.hid (U1.out.below hb)
  replace U2 := Lib.hid (U2.out.below hb)
  replace P7 := Lib.hid (P7.out.below hb)
  replace OA := Lib.hid (OA.out.below hb)
  replace OB := Lib.hid (OB.out.below hb)
  replace HW := Lib.hid (HW.out.trans (hb.mono HW.out.size))
  have P9 := Lib.hid hx
  clear hb hx
  clear OA
  clear OB
  go_wp2_with fail
  refine (OW0.out _ _ U0.out).mono ?_
  rintro e w7 ⟨x7, rfl, hx, hb⟩
  replace U0 := Lib.hid (U0.out.below hb)
  replace U1 := Lib.hid (U1.out.below hb)
  replace U2 := Lib.hid (U2.out.below hb)
  replace P7 := Lib.hid (P7.out.below hb)
  replace P9 := Lib.hid (P9.out.below hb)
  replace HW := Lib.hid (HW.out.trans (hb.mono HW.out.size))
  have OA := Lib.hid hx
  clear hb hx
  go_wp2_with fail
  refine (OW1.out _ _ U1.out).mono ?_
  rintro e w8 ⟨x8, rfl, hx, hb⟩
  replace U0 := Lib.hid (U0.out.below hb)
  replace U1 := Lib.hid (U1.out.below hb)
  replace U2 := Lib.hid (U2.out.below hb)
  replace P7 := Lib.hid (P7.out.below hb)
  replace P9 := Lib.hid (P9.out.below hb)
  replace OA := Lib.hid (OA.out.below hb)
  replace HW := Lib.hid (HW.out.trans (hb.mono HW.out.size))
  have OB := Lib.hid hx
  clear hb hx
  go_wp2_with fail
  refine (MU01.out _ _ _ OA.out OB.out).mono ?_
  rintro e w9 ⟨x9, rfl, hx', -, hb⟩
  have hx := hx' rfl
  clear hx'
  replace U0 := Lib.hid (U0.out.below hb)
  replace U1 := Lib.hid (U1.out.below hb)
  replace U2 := Lib.hid (U2.out.below hb)
  replace P7 := Lib.hid (P7.out.below hb)
  replace P9 := Lib.hid (P9.out.below hb)
  replace OA := Lib.hid (OA.out.below hb)
  replace OB := Lib.hid (OB.out.below hb)
  replace HW := Lib.hid (HW.out.trans (hb.mono HW.out.size))
  have P11 := Lib.hid hx
  clear hb hx
  clear OA
  clear OB
  go_wp2_with fail
  refine (OW1.out _ _ U1.out).mono ?_
  rintro e w10 ⟨x10, rfl, hx, hb⟩
  replace U0 := Lib.hid (U0.out.below hb)
  replace U1 := Lib.hid (U1.out.below hb)
  replace U2 := Lib.hid (U2.out.below hb)
  replace P7 := Lib.hid (P7.out.below hb)
  replace P9 := Lib.hid (P9.out.below hb)
  replace P11 := Lib.hid (P11.out.below hb)
  replace HW := Lib.hid (HW.out.trans (hb.mono HW.out.size))
  have OA := Lib.hid hx
  clear hb hx
  go_wp2_with fail
  refine (OW0.out _ _ U0.out).mono ?_
  rintro e w11 ⟨x11, rfl, hx, hb⟩
  replace U0 := Lib.hid (U0.out.below hb)
  replace U1 := Lib.hid (U1.out.below hb)
  replace U2 := Lib.hid (U2.out.below hb)
  replace P7 := Lib.hid (P7.out.below hb)
  replace P9 := Lib.hid (P9.out.below hb)
  replace P11 := Lib.hid (P11.out.below hb)
  replace OA := Lib.hid (OA.out.below hb)
  replace HW := Lib.hid (HW.out.trans (hb.mono HW.out.size))
  have OB := Lib.hid hx
  clear hb hx
  go_wp2_with fail
  refine (MU10.out _ _ _ OA.out OB.out).mono ?_
  rintro e w12 ⟨x12, rfl, hx', -, hb⟩
  have hx := hx' rfl
  clear hx'
  replace U0 := Lib.hid (U0.out.below hb)
  replace U1 := Lib.hid (U1.out.below hb)
  replace U2 := Lib.hid (U2.out.below hb)
  replace P7 := Lib.hid (P7.out.below hb)
  replace P9 := Lib.hid (P9.out.below hb)
  replace P11 := Lib.hid (P11.out.below hb)
  replace OA := Lib.hid (OA.out.below hb)
  replace OB := Lib.hid (OB.out.below hb)
  replace HW := Lib.hid (HW.out.trans (hb.mono HW.out.size))
  have P13 := Lib.hid hx
  clear hb hx
  clear OA
  clear OB
  go_wp2_with fail
  refine (OW2.out _ _ U2.out).mono ?_
  rintro e w13 ⟨x13, rfl, hx, hb⟩
  replace U0 := Lib.hid (U0.out.below hb)
  replace U1 := Lib.hid (U1.out.below hb)
  replace U2 := Lib.hid (U2.out.below hb)
  replace P7 := Lib.hid (P7.out.below hb)
  replace P9 := Lib.hid (P9.out.below hb)
  replace P11 := Lib.hid (P11.out.below hb)
  replace P13 := Lib.hid (P13.out.below hb)
  replace HW := Lib.hid (HW.out.trans (hb.mono HW.out.size))
  have OA := Lib.hid hx
  clear hb hx
  go_wp2_with fail
  refine (MUS.out _ _ _ P7.out.nn OA.out).mono ?_
  rintro e w14 ⟨x14, rfl, hx', -, hb⟩
  have hx := hx' rfl
  clear hx'
  replace U0 := Lib.hid (U0.out.below hb)
  replace U1 := Lib.hid (U1.out.below hb)
  replace U2 := Lib.hid (U2.out.below hb)
  replace P7 := Lib.hid (P7.out.below hb)
  replace P9 := Lib.hid (P9.out.below hb)
  replace P11 := Lib.hid (P11.out.below hb)
  replace P13 := Lib.hid (P13.out.below hb)
  replace OA := Lib.hid (OA.out.below hb)
  replace HW := Lib.hid (HW.out.trans (hb.mono HW.out.size))
  have P15 := Lib.hid hx
  clear hb hx
  clear OA
  go_wp2_with fail
  refine (OW0.out _ _ U0.out).mono ?_
  rintro e w15 ⟨x15, rfl, hx, hb⟩
  replace U0 := Lib.hid (U0.out.below hb)
  replace U1 := Lib.hid (U1.out.below hb)
  replace U2 := Lib.hid (U2.out.below hb)
  replace P7 := Lib.hid (P7.out.below hb)
  replace P9 := Lib.hid (P9.out.below hb)
  replace P11 := Lib.hid (P11.out.below hb)
  replace P13 := Lib.hid (P13.out.below hb)
  replace P15 := Lib.hid (P15.out.below hb)
  replace HW := Lib.hid (HW.out.trans (hb.mono HW.out.size))
  have OA := Lib.hid hx
  clear hb hx
  go_wp2_with fail
  refine (OW2.out _ _ U2.out).mono ?_
  rintro e w16 ⟨x16, rfl, hx, hb⟩
  replace U0 := Lib.hid (U0.out.below hb)
  replace U1 := Lib.hid (U1.out.below hb)
  replace U2 := Lib.hid (U2.out.below hb)
  replace P7 := Lib.hid (P7.out.below hb)
  replace P9 := Lib.hid (P9.out.below hb)
  replace P11 := Lib.hid (P11.out.below hb)
  replace P13 := Lib.hid (P13.out.below hb)
  replace P15 := Lib.hid (P15.out.below hb)
  replace OA := Lib.hid (OA.out.below hb)
  replace HW := Lib.hid (HW.out.trans (hb.mono HW.out.size))
  have OB := Lib.hid hx
  clear hb hx
  go_wp2_with fail
  refine (MU02.out _ _ _ OA.out OB.out).mono ?_
  rintro e w17 ⟨x17, rfl, hx', -, hb⟩
  have hx := hx' rfl
  clear hx'
  replace U0 := Lib.hid (U0.out.below hb)
  replace U1 := Lib.hid (U1.out.below hb)
  replace U2 := Lib.hid (U2.out.below hb)
  replace P7 := Lib.hid (P7.out.below hb)
  replace P9 := Lib.hid (P9.out.below hb)
  replace P11 := Lib.hid (P11.out.below hb)
  replace P13 := Lib.hid (P13.out.below hb)
  replace P15 := Lib.hid (P15.out.below hb)
  replace OA := Lib.hid (OA.out.below hb)
  replace OB := Lib.hid (OB.out.below hb)
  replace HW := Lib.hid (HW.out.trans (hb.mono HW.out.size))
  have P17 := Lib.hid hx
  clear hb hx
  clear OA
  clear OB
  go_wp2_with fail
  refine (OW1.out _ _ U1.out).mono ?_
  rintro e w18 ⟨x18, rfl, hx, hb⟩
  replace U0 := Lib.hid (U0.out.below hb)
  replace U1 := Lib.hid (U1.out.below hb)
  replace U2 := Lib.hid (U2.out.below hb)
  replace P7 := Lib.hid (P7.out.below hb)
  replace P9 := Lib.hid (P9.out.below hb)
  replace P11 := Lib.hid (P11.out.below hb)
  replace P13 := Lib.hid (P13.out.below hb)
  replace P15 := Lib.hid (P15.out.below hb)
  replace P17 := Lib.hid (P17.out.below hb)
  replace HW := Lib.hid (HW.out.trans (hb.mono HW.out.size))
  have OA := Lib.hid hx
  clear hb hx
  go_wp2_with fail
  refine (OW2.out _ _ U2.out).mono ?_
  rintro e w19 ⟨x19, rfl, hx, hb⟩
  replace U0 := Lib.hid (U0.out.below hb)
  replace U1 := Lib.hid (U1.out.below hb)
  replace U2 := Lib.hid (U2.out.below hb)
  replace P7 := Lib.hid (P7.out.below hb)
  replace P9 := Lib.hid (P9.out.below hb)
  replace P11 := Lib.hid (P11.out.below hb)
  replace P13 := Lib.hid (P13.out.below hb)
  replace P15 := Lib.hid (P15.out.below hb)
  replace P17 := Lib.hid (P17.out.below hb)
  replace OA := Lib.hid (OA.out.below hb)
  replace HW := Lib.hid (HW.out.trans (hb.mono HW.out.size))
  have OB := Lib.hid hx
  clear hb hx
  go_wp2_with fail
  refine (MU12.out _ _ _ OA.out OB.out).mono ?_
  rintro e w20 ⟨x20, rfl, hx', -, hb⟩
  have hx := hx' rfl
  clear hx'
  replace U0 := Lib.hid (U0.out.below hb)
  replace U1 := Lib.hid (U1.out.below hb)
  replace U2 := Lib.hid (U2.out.below hb)
  replace P7 := Lib.hid (P7.out.below hb)
  replace P9 := Lib.hid (P9.out.below hb)
  replace P11 := Lib.hid (P11.out.below hb)
  replace P13 := Lib.hid (P13.out.below hb)
  replace P15 := Lib.hid (P15.out.below hb)
  replace P17 := Lib.hid (P17.out.below hb)
  replace OA := Lib.hid (OA.out.below hb)
  replace OB := Lib.hid (OB.out.below hb)
  replace HW := Lib.hid (HW.out.trans (hb.mono HW.out.size))
  have P19 := Lib.hid hx
  clear hb hx
  clear OA
  clear OB
  go_wp2_with fail
  refine (ADM.out _ _ _ P17.out.nn P19.out.nn).mono ?_
  rintro e w21 ⟨x21, rfl, hx', -, hb⟩
  have hx := hx' rfl
  clear hx'
  replace U0 := Lib.hid (U0.out.below hb)
  replace U1 := Lib.hid (U1.out.below hb)
  replace U2 := Lib.hid (U2.out.below hb)
  replace P7 := Lib.hid (P7.out.below hb)
  replace P9 := Lib.hid (P9.out.below hb)
  replace P11 := Lib.hid (P11.out.below hb)
  replace P13 := Lib.hid (P13.out.below hb)
  replace P15 := Lib.hid (P15.out.below hb)
  replace P17 := Lib.hid (P17.out.below hb)
  replace P19 := Lib.hid (P19.out.below hb)
  replace HW := Lib.hid (HW.out.trans (hb.mono HW.out.size))
  have P21 := Lib.hid hx
  clear hb hx
  clear P17
  clear P19
  clear U0
  clear U1
  clear U2
  clear OW0 OW1 OW2 AD01 AD10 MU01 MU10 MUS MU02 MU12 ADM
  rw [Nat.add_comm B A] at P9
  rw [Nat.mul_comm B A] at P13
  rw [← Nat.add_mul] at P21
  go_wp2_with fail
  refine (same_any P7.out P9.out).mono ?_
  rintro e w22 ⟨rfl, m22, hm⟩
  have hb : Below w21.heap.size w21 w22 := by rw [hm]; exact below_drewN (Below.refl _ _) _
  clear hm
  replace P7 := Lib.hid (P7.out.below hb)
  replace P9 := Lib.hid (P9.out.below hb)
  replace P11 := Lib.hid (P11.out.below hb)
  replace P13 := Lib.hid (P13.out.below hb)
  replace P15 := Lib.hid (P15.out.below hb)
  replace P21 := Lib.hid (P21.out.below hb)
  replace HW := Lib.hid (HW.out.trans (hb.mono HW.out.size))
  clear hb
  clear P7
  clear P9
  go_wp2_with fail
  refine (same_any P11.out P13.out).mono ?_
  rintro e w23 ⟨rfl, m23, hm⟩
  have hb : Below w22.heap.size w22 w23 := by rw [hm]; exact below_drewN (Below.refl _ _) _
  clear hm
  replace P11 := Lib.hid (P11.out.below hb)
  replace P13 := Lib.hid (P13.out.below hb)
  replace P15 := Lib.hid (P15.out.below hb)
  replace P21 := Lib.hid (P21.out.below hb)
  replace HW := Lib.hid (HW.out.trans (hb.mono HW.out.size))
  clear hb
  clear P11
  clear P13
  go_wp2_with fail
  refine (same_any P15.out P21.out).mono ?_
  rintro e w24 ⟨rfl, m24, hm⟩
  have hb : Below w23.heap.size w23 w24 := by rw [hm]; exact below_drewN (Below.refl _ _) _
  clear hm
  replace P15 := Lib.hid (P15.out.below hb)
  replace P21 := Lib.hid (P21.out.below hb)
  replace HW := Lib.hid (HW.out.trans (hb.mono HW.out.size))
  clear hb
  clear P15
  clear P21
  go_wp2_with fail
  refine (lives_any _).mono ?_
  rintro e w25 ⟨rfl, hb⟩
  replace HW := Lib.hid (HW.out.trans (hb.mono HW.out.size))
  clear hb
  go_wp2
  go_ret
  exact ⟨rfl, HW.out⟩
end Go.Proofs.Ytgegkffigjogcaa

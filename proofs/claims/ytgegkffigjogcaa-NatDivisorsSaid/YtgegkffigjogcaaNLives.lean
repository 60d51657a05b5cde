/- bailiwicklaw02.lives: true. -/
import Derived.Test.YtgegkffigjogcaaNExp
import Derived.Test.YtgegkffigjogcaaNFromW
import Derived.Test.YtgegkffigjogcaaNOwn
namespace Go.Proofs.Ytgegkffigjogcaa
open Go.RowKit

theorem pow_up (B k : Nat) (hB : 0 < B) (h : 1 ≤ k) : B ^ 1 ≤ B ^ k := Nat.pow_le_pow_right hB h
theorem lim_up (k : Nat) (hk : 1 ≤ k) {x : Nat} (h : x < 4294967296) : ¬ 4294967296 ^ k ≤ x := by
  intro h1
  have h2 := pow_up 4294967296 k (by omega) hk
  rw [Nat.pow_one] at h2
  exact absurd (Nat.lt_of_lt_of_le h h2) (Nat.not_lt.2 h1)
theorem lim_is : ∃ k : Nat, 1 ≤ k ∧ LIM = 4294967296 ^ k := ⟨1024, by decide, by unfold LIM; rfl⟩
theorem small_lim {x : Nat} (h : x < 4294967296) : ¬ LIM ≤ x := by
  obtain ⟨k, hk, e⟩ := lim_is
  rw [e]
  exact lim_up k hk h
theorem small_cd {x : Nat} (h : x < 4294967296) : cdN x = 0 := by unfold cdN; rw [if_neg (small_lim h)]
theorem bytes_rd (w : World) (x y : Nat) (t : TypeId) : RdB (w.alloc (.cells #[.int .u8 (x : Nat), .int .u8 (y : Nat)] t)) (some ⟨w.heap.size, 0, none⟩) 2 (fun j => if j = 0 then x else y) :=
  .inr ⟨w.heap.size, 0, rfl, by simp, fun j hj => by
    have : j = 0 ∨ j = 1 := by omega
    rcases this with rfl | rfl <;> (rw [cell_of_row _ _ _ _ _ _ (heap_alloc_new _ _)]; rfl)⟩
theorem below_drewN {h : Nat} {w w' : World} (hb : Below h w w') (m : Nat) : Below h w (w'.drewN m) :=
  ⟨hb.os, hb.tape, hb.output, hb.size, hb.block⟩
set_option maxRecDepth 100000 in
set_option maxHeartbeats 1000000 in
theorem lives_any (w : World) : Calls Try.prog 21 #[] w fun e w' => e = .returned (.bool true) ∧ Below w.heap.size w w' := by
  obtain ⟨w1, hw1⟩ : ∃ w1, w.alloc (.cells #[.int .u32 3] 32) = w1 := ⟨_, rfl⟩
  obtain ⟨w2, hw2⟩ : ∃ w2, w1.alloc (.cells #[.int .u32 5] 32) = w2 := ⟨_, rfl⟩
  obtain ⟨w3, hw3⟩ : ∃ w3, w2.alloc (.cells #[.int .u32 7] 32) = w3 := ⟨_, rfl⟩
  have b1 : Below w.heap.size w w1 := by rw [← hw1]; exact (Below.refl _ _).alloc (Nat.le_refl _) _
  have b2 : Below w1.heap.size w1 w2 := by rw [← hw2]; exact (Below.refl _ _).alloc (Nat.le_refl _) _
  have b3 : Below w2.heap.size w2 w3 := by rw [← hw3]; exact (Below.refl _ _).alloc (Nat.le_refl _) _
  have p1 : PV 3 (.slice (some ⟨w.heap.size, 0, none⟩) 1 1) w1 := by rw [← hw1]; exact one_pv w 3 _ (by omega) (by omega)
  have p2 : PV 5 (.slice (some ⟨w1.heap.size, 0, none⟩) 1 1) w2 := by rw [← hw2]; exact one_pv w1 5 _ (by omega) (by omega)
  have p3 : PV 7 (.slice (some ⟨w2.heap.size, 0, none⟩) 1 1) w3 := by rw [← hw3]; exact one_pv w2 7 _ (by omega) (by omega)
  have he := exp_api ((p1.below b2).below b3).nn (p2.below b3).nn p3.nn
  have hc : cdP 3 5 7 = 0 := by unfold cdP cd3 cd2; rw [small_cd (x := 3) (by omega), small_cd (x := 5) (by omega), small_cd (x := 7) (by omega)]; rfl
  rw [hc, show 3 ^ 5 % 7 = 5 from rfl] at he
  have HE := Lib.hid he
  have b4 := b1.trans (b2.mono b1.size)
  have HB := Lib.hid (b4.trans (b3.mono b4.size))
  clear he hc b1 b2 b3 b4 p1 p2 p3
  go_enter Try.func21, Try.ntmps21
  go_wp2_with fail
  clear hw1 hw2 hw3
  refine HE.out.mono ?_
  rintro e w4 ⟨v, rfl, hv, -, hb4⟩
  obtain ⟨w5, hw5⟩ : ∃ w5, w4.alloc (.cells #[.int .u8 1, .int .u8 0] 5) = w5 := ⟨_, rfl⟩
  have b5 : Below w4.heap.size w4 w5 := by rw [← hw5]; exact (Below.refl _ _).alloc (Nat.le_refl _) _
  have hf := from_any (some ⟨w4.heap.size, 0, none⟩) 2 2 (fun j => if j = 0 then 1 else 0) (by omega) (by omega) (fun j _ => by
    by_cases e : j = 0
    · simp only [e, if_true]; omega
    · simp only [e, if_false]; omega) w5 (by rw [← hw5]; exact bytes_rd w4 1 0 _)
  rw [show bw (fun j => if j = 0 then 1 else 0) 2 = 256 from rfl, small_cd (by omega)] at hf
  have HF := Lib.hid hf
  have h4 := HB.out.trans (hb4.mono HB.out.size)
  have HV := Lib.hid (And.intro ((hv rfl).below b5) (h4.trans (b5.mono h4.size)))
  clear hf hv hb4 b5 h4
  go_wp2_with fail
  clear hw5
  refine HF.out.mono ?_
  rintro e w6 ⟨u, rfl, hu, -, hb6⟩
  obtain ⟨w7, hw7⟩ : ∃ w7, w6.alloc (.cells #[.int .u32 5] 32) = w7 := ⟨_, rfl⟩
  have b7 : Below w6.heap.size w6 w7 := by rw [← hw7]; exact (Below.refl _ _).alloc (Nat.le_refl _) _
  have p7 : PV 5 (.slice (some ⟨w6.heap.size, 0, none⟩) 1 1) w7 := by rw [← hw7]; exact one_pv w6 5 _ (by omega) (by omega)
  have HS1 := Lib.hid (same_any ((HV.out.1.below hb6).below b7) p7)
  have h6 := HV.out.2.trans (hb6.mono HV.out.2.size)
  have HU := Lib.hid (And.intro ((hu rfl).below b7) (h6.trans (b7.mono h6.size)))
  clear hu hb6 b7 p7 h6
  go_wp2_with fail
  clear hw7
  refine HS1.out.mono ?_
  rintro e w8 ⟨rfl, m1, hm1⟩
  have b8 : Below w7.heap.size w7 w8 := by rw [hm1]; exact below_drewN (Below.refl _ _) _
  clear hm1
  obtain ⟨w9, hw9⟩ : ∃ w9, w8.alloc (.cells #[.int .u32 256] 32) = w9 := ⟨_, rfl⟩
  have b9 : Below w8.heap.size w8 w9 := by rw [← hw9]; exact (Below.refl _ _).alloc (Nat.le_refl _) _
  have p9 : PV 256 (.slice (some ⟨w8.heap.size, 0, none⟩) 1 1) w9 := by rw [← hw9]; exact one_pv w8 256 _ (by omega) (by omega)
  have HS2 := Lib.hid (same_any ((HU.out.1.below b8).below b9) p9)
  have h8 := HU.out.2.trans (b8.mono HU.out.2.size)
  have H9 := Lib.hid (h8.trans (b9.mono h8.size))
  clear b8 b9 p9 h8
  go_wp2_with fail
  clear hw9
  refine HS2.out.mono ?_
  rintro e wz ⟨rfl, m2, hm2⟩
  have HZ := Lib.hid (show Below w.heap.size w wz by rw [hm2]; exact below_drewN H9.out _)
  clear hm2
  go_wp2
  go_ret
  exact ⟨rfl, HZ.out⟩
end Go.Proofs.Ytgegkffigjogcaa

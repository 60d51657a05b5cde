/- bailiwicklaw02.NatLong: whatever the numbers: true. -/
import Derived.Test.YtgegkffigjogcaaNGcd
namespace Go.Proofs.Ytgegkffigjogcaa
open Go.RowKit

theorem Wr.put {w : World} {S L : Nat} {f : Nat → Nat} (h : Wr w S 0 L f) (hf : ∀ j, j < L → f j < 4294967296) (j y : Nat) (hj : j < L) (hy : y < 4294967296) : ∃ g, Wr (w.setCell ⟨S, j, none⟩ (.int .u32 (y : Nat))) S 0 L g ∧ ∀ j, j < L → g j < 4294967296 := by
  have h1 : (w.cell? ⟨S, 0 + j + 0, none⟩).isSome = true := by
    have := (h.2 j hj).1
    rw [Nat.add_zero, this]; rfl
  have h2 := (HoldsN.start S (0 + j) (fun _ => 0) w).next y h1
  have h3 := h2.splice h (by omega)
  rw [Nat.add_zero, Nat.zero_add] at h3
  exact ⟨_, h3, spl_lt hf (fun i hi => by unfold upd; split <;> omega)⟩
theorem Wr.at0 {w : World} {S L : Nat} {f : Nat → Nat} (h : Wr w S 0 L f) (j : Nat) (hj : j < L) : w.cell? ⟨S, j, none⟩ = some (.int .u32 (f j : Nat)) ∧ w.frozen? ⟨S, j, none⟩ = false := by
  have := h.2 j hj
  rwa [Nat.zero_add] at this
theorem Wr.an {w : World} {S L : Nat} {f : Nat → Nat} (h : Wr w S 0 L f) (hL : (L : Int) ≤ 35184372088832) (hf : ∀ j, j < L → f j < 4294967296) : AN (vb 4294967296 f L) (.slice (some ⟨S, 0, none⟩) L L) w :=
  ⟨L, f, ⟨_, L, rfl, Nat.le_refl _, (fun h => by cases h), h.rd⟩, hL, hf, rfl⟩
theorem two_an (w : World) (x y V : Nat) (t : TypeId) (hx : x < 4294967296) (hy : y < 4294967296) (hV : x + 4294967296 * y = V) : AN V (.slice (some ⟨w.heap.size, 0, none⟩) 2 2) (w.alloc (.cells #[.int .u32 (x : Nat), .int .u32 (y : Nat)] t)) :=
  ⟨2, fun j => if j = 0 then x else y, ⟨_, 2, rfl, Nat.le_refl _, (fun h => by cases h), .inr ⟨w.heap.size, 0, rfl, by simp, fun j hj => by
    have h : j = 0 ∨ j = 1 := by omega
    rcases h with rfl | rfl
    · rw [cell_of_row _ _ _ _ _ _ (heap_alloc_new _ _)]; rfl
    · rw [cell_of_row _ _ _ _ _ _ (heap_alloc_new _ _)]; rfl⟩⟩, by omega, fun j _ => by
      by_cases e : j = 0
      · simp only [e, if_true]; exact hx
      · simp only [e, if_false]; exact hy, by simp [vb]; omega⟩
theorem AN.nnb {V : Nat} {g n c : Nat} {w : World} (h : AN V (.slice (some ⟨g, 0, none⟩) n c) w) (hg : g < w.heap.size) : NN V (.slice (some ⟨g, 0, none⟩) n c) w := by
  obtain ⟨n', f, ⟨a, cap, e, h1, h2, h3⟩, h4, h5, h6⟩ := h
  injection e with e1 e2 e3
  subst e1 e2 e3
  exact ⟨_, n, c, f, rfl, ⟨h1, h3, fun q hq => by cases hq; exact hg, h5, h4⟩, h6⟩
/-- A number, or 0 where it can't be told. -/
def vz (c V : Nat) : Nat := if c = 0 then V else 0
theorem ans_vz {c V : Nat} {w w' : World} {e : Ending} (h : Ans c V w e w') : ∃ v, e = .returned (.tuple #[v, .int .i64 (c : Nat)]) ∧ PV (vz c V) v w' ∧ Below w.heap.size w w' := by
  obtain ⟨v, rfl, h1, h2, h3⟩ := h
  refine ⟨v, rfl, ?_, h3⟩
  unfold vz
  by_cases e : c = 0
  · rw [if_pos e]; exact h1 e
  · rw [if_neg e, h2 e]; exact pv_nil _
theorem ansr_vz {c V : Nat} {w w' : World} {e : Ending} (h : AnsR c V w e w') : ∃ v, e = .returned (.tuple #[v, .int .i64 (c : Nat)]) ∧ PV (vz c V) v w' ∧ Below w.heap.size w w' := by
  obtain ⟨v, rfl, h1, h2, h3⟩ := h
  refine ⟨v, rfl, ?_, h3⟩
  unfold vz
  by_cases e : c = 0
  · rw [if_pos e]; exact (h1 e).pv
  · rw [if_neg e, h2 e]; exact pv_nil _
theorem chk_nn {A : Nat} {u : Value} {w : World} (hu : NN A u w) : Calls Try.prog 22 #[u] w fun e w' => e = .returned (.int .i64 ((cdN A : Nat) : Int)) ∧ Below w.heap.size w w' := by
  obtain ⟨a, n, ca, f, rfl, ha, rfl⟩ := hu
  exact (check_nv ha).mono fun e w' ⟨he, hd⟩ => ⟨he, by rw [← hd]; exact Below.refl _ _⟩
set_option maxRecDepth 100000 in
set_option maxHeartbeats 8000000 in
theorem long_any (w : World) (k lo hi : Nat) (hk : k < 65536) (hlo : lo < 4294967296) (hhi : hi < 4294967296) :
    Calls Try.prog 4 #[.int .u16 (k : Nat), .int .u32 (lo : Nat), .int .u32 (hi : Nat)] w fun e w' => e = .returned (.bool true) ∧ Below w.heap.size w w' := by
  obtain ⟨m, hm⟩ : ∃ m, k % 1100 = m := ⟨_, rfl⟩
  obtain ⟨L, hL⟩ : ∃ L : Nat, 1 + (m : Int) = (L : Int) := ⟨1 + m, by omega⟩
  have t1 : (k : Int).tmod 1100 = (m : Int) := by rw [Int.tmod_eq_emod_of_nonneg (by omega)]; omega
  have t2 : (k : Int) % 1100 = (m : Int) := by omega
  have hLm : L = m + 1 := by omega
  have hL0 : (0 : Int) < L := by omega
  have hL00 : (0 : Int) ≤ L := by omega
  have hL1 : (L : Int) ≤ 1100 := by omega
  have T3 : Hid ((L : Int) - 1 = (m : Int)) := Lib.hid (by omega)
  have hm0 : (0 : Int) ≤ m := by omega
  have hmL : (m : Int) < L := by omega
  have hk0 : (0 : Int) ≤ k := by omega
  have hk1 : (k : Int) < 65536 := by omega
  obtain ⟨i0, hi0, hz0, hz1, hz2⟩ := info_parts info32
  have HLO := Lib.hid (And.intro hlo hhi)
  have HLM := Lib.hid hLm
  clear hlo hhi hm hk hLm
  go_enter Try.func4, Try.ntmps4
  go_wp2_with (at_make; refine wpList_make_full _ rfl _ _ 23 rfl w.heap.size 32 i0 (.int .u32 0) 1 Try.underlying23 hi0 hz0 hz1 .i64 .i64 _ _ L rfl rfl rfl rfl (by rw [hz2]; omega) (by unfold maxLen; omega) (Nat.le_refl _) ?_; intro w0 hown0 hgrow0; (have HW0 := Lib.hid (made_wr hown0 hgrow0)); clear hown0 hgrow0; (have c0 := (HW0.out.1.at0 0 (by omega)).1); (have f0 := (HW0.out.1.at0 0 (by omega)).2); (obtain ⟨g1, hW1, hg1⟩ := HW0.out.1.put (fun _ _ => by omega) 0 lo (by omega) HLO.out.1); (have c1 := (hW1.at0 m (by have := HLM.out; omega)).1); (have f1 := (hW1.at0 m (by have := HLM.out; omega)).2); (have HW1 := Lib.hid (And.intro hW1 hg1)); clear hW1 hg1; (have t3 := T3.out))
  obtain ⟨g2, hW2, hg2⟩ := HW1.out.1.put HW1.out.2 m hi (by have := HLM.out; omega) HLO.out.2
  have hW0 := HW0.out
  have hA := hW2.an (by omega) hg2
  have hS := hW2.1
  have HW : Hid (Below w.heap.size w _) := Lib.hid ((hW0.2.setCell (Nat.le_refl _) (.int .u32 (lo : Nat)) (p := ⟨w.heap.size, 0, none⟩)).setCell (p := ⟨w.heap.size, m, none⟩) (Nat.le_refl _) (.int .u32 (hi : Nat)))
  obtain ⟨A, eA⟩ : ∃ A, vb 4294967296 g2 L = A := ⟨_, rfl⟩
  rw [eA] at hA
  have UA := Lib.hid hA
  clear hW0 hW2 hg2 hA eA hS HW0 HW1
  obtain ⟨wn, hwn⟩ : ∃ wn, (w0.setCell ⟨w.heap.size, 0, none⟩ (.int .u32 (lo : Nat))).setCell ⟨w.heap.size, m, none⟩ (.int .u32 (hi : Nat)) = wn := ⟨_, rfl⟩
  rw [hwn] at UA HW
  obtain ⟨B, hB⟩ : ∃ B, 4294967296 = B := ⟨_, rfl⟩
  have HB := Lib.hid hB
  clear hB
  have A1 := Lib.hid (fun x y w' (hx : NN A x w') (hy : NN 1 y w') => (add_api hx hy).mono fun e w'' h => ans_vz h)
  have A2 := Lib.hid (fun x y w' (hx : AN A x w') (hy : AN 1 y w') => (radd_an hx hy).mono fun e w'' h => ansr_vz h)
  have M1 := Lib.hid (fun x y w' (hx : NN A x w') (hy : NN B y w') => (mul_api hx hy).mono fun e w'' h => ans_vz h)
  have M2 := Lib.hid (fun x y w' (hx : AN A x w') (hy : AN B y w') => (rmul_an hx hy).mono fun e w'' h => ansr_vz h)
  have K1 := Lib.hid (fun x w' (hx : NN A x w') => chk_nn hx)
  have K2 := Lib.hid (fun x w' (hx : AN A x w') => check_an hx)
  have L1 := Lib.hid (fun x w' (hx : NN A x w') => len_nn hx)
  have L2 := Lib.hid (fun x w' (hx : AN A x w') => rlen_an hx)
  obtain ⟨ca, hca⟩ : ∃ c, cdAdd A 1 = c := ⟨_, rfl⟩
  obtain ⟨cm, hcm⟩ : ∃ c, cdMul A B = c := ⟨_, rfl⟩
  obtain ⟨cn, hcn⟩ : ∃ c, cdN A = c := ⟨_, rfl⟩
  obtain ⟨bl, hbl⟩ : ∃ c, blN A = c := ⟨_, rfl⟩
  rw [hca] at A1 A2
  rw [hcm] at M1 M2
  rw [hcn] at K1 K2
  rw [hbl] at L1 L2
  clear hca hcm hcn hbl
  have e1 : ((ca : Int) == ca) = true := by simp
  have e2 : ((cm : Int) == cm) = true := by simp
  have e3 : ((cn : Int) == cn) = true := by simp
  have e4 : ((bl : Int) == bl) = true := by simp
  rw [hwn]
  clear hwn c0 f0 c1 f1
  refine (own_an UA.out).mono ?_
  rintro e wn ⟨x1, rfl, hx, hb⟩
  replace UA := Lib.hid (UA.out.below hb)
  replace HW := Lib.hid (HW.out.trans (hb.mono HW.out.size))
  have Nx1 := Lib.hid (hx)
  clear hb
  clear hx
  obtain ⟨wm, hwm⟩ : ∃ wm, wn.alloc (.cells #[.int .u32 1] 32) = wm := ⟨_, rfl⟩
  have hb : Below wn.heap.size wn wm := by rw [← hwm]; exact (Below.refl _ _).alloc (Nat.le_refl _) _
  have on_ : AN 1 (.slice (some ⟨wn.heap.size, 0, none⟩) 1 1) wm := by rw [← hwm]; exact (one_an wn 1 _ (by omega))
  have onn_ : NN 1 (.slice (some ⟨wn.heap.size, 0, none⟩) 1 1) wm := by rw [← hwm]; exact ((one_an wn 1 _ (by omega))).nnb (by simp)
  replace UA := Lib.hid (UA.out.below hb)
  replace Nx1 := Lib.hid (Nx1.out.below hb)
  replace HW := Lib.hid (HW.out.trans (hb.mono HW.out.size))
  have ON := Lib.hid on_
  have ONN := Lib.hid onn_
  clear hb on_ onn_
  obtain ⟨gb, hgb⟩ : ∃ gb, wn.heap.size = gb := ⟨_, rfl⟩
  rw [hgb] at ON ONN
  go_wp2_with fail
  clear hwm hgb
  refine (A1.out _ _ _ Nx1.out ONN.out).mono ?_
  rintro e wn ⟨x2, rfl, hx, hb⟩
  replace UA := Lib.hid (UA.out.below hb)
  replace HW := Lib.hid (HW.out.trans (hb.mono HW.out.size))
  have P2 := Lib.hid (hx)
  clear hb Nx1 ON ONN
  clear hx
  obtain ⟨wm, hwm⟩ : ∃ wm, wn.alloc (.cells #[.int .u32 1] 32) = wm := ⟨_, rfl⟩
  have hb : Below wn.heap.size wn wm := by rw [← hwm]; exact (Below.refl _ _).alloc (Nat.le_refl _) _
  have on_ : AN 1 (.slice (some ⟨wn.heap.size, 0, none⟩) 1 1) wm := by rw [← hwm]; exact (one_an wn 1 _ (by omega))
  have onn_ : NN 1 (.slice (some ⟨wn.heap.size, 0, none⟩) 1 1) wm := by rw [← hwm]; exact ((one_an wn 1 _ (by omega))).nnb (by simp)
  replace UA := Lib.hid (UA.out.below hb)
  replace P2 := Lib.hid (P2.out.below hb)
  replace HW := Lib.hid (HW.out.trans (hb.mono HW.out.size))
  have ON := Lib.hid on_
  have ONN := Lib.hid onn_
  clear hb on_ onn_
  obtain ⟨gb, hgb⟩ : ∃ gb, wn.heap.size = gb := ⟨_, rfl⟩
  rw [hgb] at ON ONN
  go_wp2_with fail
  clear hwm hgb
  refine (A2.out _ _ _ UA.out ON.out).mono ?_
  rintro e wn ⟨x3, rfl, hx, hb⟩
  replace UA := Lib.hid (UA.out.below hb)
  replace P2 := Lib.hid (P2.out.below hb)
  replace HW := Lib.hid (HW.out.trans (hb.mono HW.out.size))
  have P3 := Lib.hid (hx)
  clear hb ON ONN
  clear hx
  go_wp2_with fail
  refine (own_an UA.out).mono ?_
  rintro e wn ⟨x4, rfl, hx, hb⟩
  replace UA := Lib.hid (UA.out.below hb)
  replace P2 := Lib.hid (P2.out.below hb)
  replace P3 := Lib.hid (P3.out.below hb)
  replace HW := Lib.hid (HW.out.trans (hb.mono HW.out.size))
  have Nx4 := Lib.hid (hx)
  clear hb
  clear hx
  obtain ⟨wm, hwm⟩ : ∃ wm, wn.alloc (.cells #[.int .u32 0, .int .u32 1] 32) = wm := ⟨_, rfl⟩
  have hb : Below wn.heap.size wn wm := by rw [← hwm]; exact (Below.refl _ _).alloc (Nat.le_refl _) _
  have on_ : AN B (.slice (some ⟨wn.heap.size, 0, none⟩) 2 2) wm := by rw [← hwm]; exact (two_an wn 0 1 B _ (by omega) (by omega) (by rw [← HB.out]))
  have onn_ : NN B (.slice (some ⟨wn.heap.size, 0, none⟩) 2 2) wm := by rw [← hwm]; exact ((two_an wn 0 1 B _ (by omega) (by omega) (by rw [← HB.out]))).nnb (by simp)
  replace UA := Lib.hid (UA.out.below hb)
  replace P2 := Lib.hid (P2.out.below hb)
  replace P3 := Lib.hid (P3.out.below hb)
  replace Nx4 := Lib.hid (Nx4.out.below hb)
  replace HW := Lib.hid (HW.out.trans (hb.mono HW.out.size))
  have ON := Lib.hid on_
  have ONN := Lib.hid onn_
  clear hb on_ onn_
  obtain ⟨gb, hgb⟩ : ∃ gb, wn.heap.size = gb := ⟨_, rfl⟩
  rw [hgb] at ON ONN
  go_wp2_with fail
  clear hwm hgb
  refine (M1.out _ _ _ Nx4.out ONN.out).mono ?_
  rintro e wn ⟨x5, rfl, hx, hb⟩
  replace UA := Lib.hid (UA.out.below hb)
  replace P2 := Lib.hid (P2.out.below hb)
  replace P3 := Lib.hid (P3.out.below hb)
  replace HW := Lib.hid (HW.out.trans (hb.mono HW.out.size))
  have P5 := Lib.hid (hx)
  clear hb Nx4 ON ONN
  clear hx
  obtain ⟨wm, hwm⟩ : ∃ wm, wn.alloc (.cells #[.int .u32 0, .int .u32 1] 32) = wm := ⟨_, rfl⟩
  have hb : Below wn.heap.size wn wm := by rw [← hwm]; exact (Below.refl _ _).alloc (Nat.le_refl _) _
  have on_ : AN B (.slice (some ⟨wn.heap.size, 0, none⟩) 2 2) wm := by rw [← hwm]; exact (two_an wn 0 1 B _ (by omega) (by omega) (by rw [← HB.out]))
  have onn_ : NN B (.slice (some ⟨wn.heap.size, 0, none⟩) 2 2) wm := by rw [← hwm]; exact ((two_an wn 0 1 B _ (by omega) (by omega) (by rw [← HB.out]))).nnb (by simp)
  replace UA := Lib.hid (UA.out.below hb)
  replace P2 := Lib.hid (P2.out.below hb)
  replace P3 := Lib.hid (P3.out.below hb)
  replace P5 := Lib.hid (P5.out.below hb)
  replace HW := Lib.hid (HW.out.trans (hb.mono HW.out.size))
  have ON := Lib.hid on_
  have ONN := Lib.hid onn_
  clear hb on_ onn_
  obtain ⟨gb, hgb⟩ : ∃ gb, wn.heap.size = gb := ⟨_, rfl⟩
  rw [hgb] at ON ONN
  go_wp2_with fail
  clear hwm hgb
  refine (M2.out _ _ _ UA.out ON.out).mono ?_
  rintro e wn ⟨x6, rfl, hx, hb⟩
  replace UA := Lib.hid (UA.out.below hb)
  replace P2 := Lib.hid (P2.out.below hb)
  replace P3 := Lib.hid (P3.out.below hb)
  replace P5 := Lib.hid (P5.out.below hb)
  replace HW := Lib.hid (HW.out.trans (hb.mono HW.out.size))
  have P6 := Lib.hid (hx)
  clear hb ON ONN
  clear hx
  go_wp2_with fail
  refine (same_nn P2.out P3.out).mono ?_
  rintro e wn ⟨rfl, hb⟩
  replace UA := Lib.hid (UA.out.below hb)
  replace P5 := Lib.hid (P5.out.below hb)
  replace P6 := Lib.hid (P6.out.below hb)
  replace HW := Lib.hid (HW.out.trans (hb.mono HW.out.size))
  clear hb P2 P3
  go_wp2_with fail
  refine (same_nn P5.out P6.out).mono ?_
  rintro e wn ⟨rfl, hb⟩
  replace UA := Lib.hid (UA.out.below hb)
  replace HW := Lib.hid (HW.out.trans (hb.mono HW.out.size))
  clear hb P5 P6
  go_wp2_with fail
  refine (own_an UA.out).mono ?_
  rintro e wn ⟨x7, rfl, hx, hb⟩
  replace UA := Lib.hid (UA.out.below hb)
  replace HW := Lib.hid (HW.out.trans (hb.mono HW.out.size))
  have Nx7 := Lib.hid (hx)
  clear hb
  clear hx
  go_wp2_with fail
  refine (K1.out _ _ Nx7.out).mono ?_
  rintro e wn ⟨rfl, hb⟩
  replace UA := Lib.hid (UA.out.below hb)
  replace HW := Lib.hid (HW.out.trans (hb.mono HW.out.size))
  clear hb Nx7
  go_wp2_with fail
  refine (K2.out _ _ UA.out).mono ?_
  rintro e wn ⟨rfl, hb⟩
  replace UA := Lib.hid (UA.out.below hb)
  replace HW := Lib.hid (HW.out.trans (hb.mono HW.out.size))
  clear hb
  go_wp2_with fail
  refine (own_an UA.out).mono ?_
  rintro e wn ⟨x8, rfl, hx, hb⟩
  replace UA := Lib.hid (UA.out.below hb)
  replace HW := Lib.hid (HW.out.trans (hb.mono HW.out.size))
  have Nx8 := Lib.hid (hx)
  clear hb
  clear hx
  go_wp2_with fail
  refine (plain_nn Nx8.out).mono ?_
  rintro e wn ⟨x9, rfl, hx, hb⟩
  replace UA := Lib.hid (UA.out.below hb)
  replace HW := Lib.hid (HW.out.trans (hb.mono HW.out.size))
  have P9 := Lib.hid (hx)
  clear hb Nx8
  clear hx
  go_wp2_with fail
  refine (plain_an UA.out).mono ?_
  rintro e wn ⟨x10, rfl, hx, hb⟩
  replace UA := Lib.hid (UA.out.below hb)
  replace P9 := Lib.hid (P9.out.below hb)
  replace HW := Lib.hid (HW.out.trans (hb.mono HW.out.size))
  have P10 := Lib.hid (hx)
  clear hb
  clear hx
  go_wp2_with fail
  refine (same_nn P9.out P10.out.pv).mono ?_
  rintro e wn ⟨rfl, hb⟩
  replace UA := Lib.hid (UA.out.below hb)
  replace HW := Lib.hid (HW.out.trans (hb.mono HW.out.size))
  clear hb P9 P10
  go_wp2_with fail
  refine (own_an UA.out).mono ?_
  rintro e wn ⟨x11, rfl, hx, hb⟩
  replace UA := Lib.hid (UA.out.below hb)
  replace HW := Lib.hid (HW.out.trans (hb.mono HW.out.size))
  have Nx11 := Lib.hid (hx)
  clear hb
  clear hx
  go_wp2_with fail
  refine (L1.out _ _ Nx11.out).mono ?_
  rintro e wn ⟨rfl, hb⟩
  replace UA := Lib.hid (UA.out.below hb)
  replace HW := Lib.hid (HW.out.trans (hb.mono HW.out.size))
  clear hb Nx11
  go_wp2_with fail
  refine (L2.out _ _ UA.out).mono ?_
  rintro e wn ⟨rfl, hb⟩
  replace UA := Lib.hid (UA.out.below hb)
  replace HW := Lib.hid (HW.out.trans (hb.mono HW.out.size))
  clear hb
  go_wp2_with fail
  refine (lives_any _).mono ?_
  rintro e wn ⟨rfl, hb⟩
  replace UA := Lib.hid (UA.out.below hb)
  replace HW := Lib.hid (HW.out.trans (hb.mono HW.out.size))
  clear hb
  go_wp2
  go_ret
  exact ⟨rfl, HW.out⟩
theorem long_card {w : World} (k : Nat) (hk : k < 65536) (lo : Nat) (hlo : lo < 4294967296) (hi : Nat) (hhi : hi < 4294967296) :
    Calls Try.prog 4 #[.int .u16 (k : Nat), .int .u32 (lo : Nat), .int .u32 (hi : Nat)] w fun e w' => e = .returned (.bool true) ∧ Below w.heap.size w w' := long_any w k lo hi hk hlo hhi
end Go.Proofs.Ytgegkffigjogcaa

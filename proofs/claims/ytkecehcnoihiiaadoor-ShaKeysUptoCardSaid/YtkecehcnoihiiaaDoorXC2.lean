/- bailiwicklaw04.ShaKeys: the statement about it, and its card: whatever the input of bulk at most 1048576: true; the input reads as it did. CONDITIONS: the row's own: its listed tables read, when the call begins, as the program's text lays them; the card ties them to that text; that bulk (its second form). (With it, merged: SRHmac · SKeyB · SKeys · ShaKeys.) -/
import Derived.Test.YtkecehcnoihiiaaDoorXC1
import Derived.Test.YtkecehcnoihiiaaDoorM5
namespace Go.Proofs.YtkecehcnoihiiaaDoor
open Go.RowKit

theorem ct_start (w0 : World) (x y : Nat → Nat) : CTw w0 x y (.slice (some ⟨w0.heap.size, 0, none⟩) 0 0) (.slice (some ⟨w0.heap.size + 1, 0, none⟩) 0 0) 0 ((w0.alloc (.cells #[] 5)).alloc (.cells #[] 5)) := by
  have h1 := World.ownsRow_made (base := w0.heap.size) (e := 5) (size := 1) w0 #[] 0 (Nat.le_refl _) (by decide) (by simp)
  have h2 := World.ownsRow_made (base := w0.heap.size) (e := 5) (size := 1) (w0.alloc (.cells #[] 5)) #[] 0 (by simp) (by decide) (by simp)
  refine ⟨((Below.refl _ _).alloc (Nat.le_refl _) _).alloc (by simp) _, ?_, ?_, ?_⟩
  · have h3 := World.ownsRow.alloc h1 (.cells #[] 5)
    simpa [Own8, p8] using h3
  · simpa [Own8, p8] using h2
  · intro e
    have e2 : some w0.heap.size = some (w0.heap.size + 1) := e
    injection e2 with e2
    omega
theorem key_small {f : Nat → Nat} {n : Nat} (h : n ≤ 64) (j : Nat) : keyN f n j = if j < n then f j else 0 := by unfold keyN; rw [if_pos h]
theorem key_big {f : Nat → Nat} {n : Nat} (h : 64 < n) (j : Nat) : keyN f n j = if j < 32 then shaN f n j else 0 := by unfold keyN; rw [if_neg (by omega)]
theorem infoA : (Tryd.prog.info? 39).map (·.size) = some 8 := by kernel_rfl
set_option maxRecDepth 100000 in
set_option maxHeartbeats 8000000 in
-- WHAT THE REFERENCE's HMAC COMES TO.
theorem rhmac_any {n m : Nat} {f g : Nat → Nat} {u v : Value} {w : World} (hn : n ≤ 1048576) (hm : m ≤ 1048576) (hf : ∀ j, f j < 256) (hg : ∀ j, g j < 256) (hu : ArgB w u n f) (hv : ArgB w v m g) : Calls Tryd.prog 13 #[u, v] w fun e w' => e = .returned (.agg (ar .u8 32 (hmacH f n g m))) ∧ Below w.heap.size w w' := by
  have HU := Lib.hid hu
  have HV := Lib.hid (And.intro hv (And.intro hm (And.intro hg (And.intro hf hn))))
  obtain ⟨au, cu, rfl, -, -, hru⟩ := hu
  obtain ⟨av, cv, rfl, -, -, -⟩ := hv
  have HRU := Lib.hid hru
  have HHM : Hid (hmacH f n g m = shaH (catB 64 (fun j => keyN f n j ^^^ 92) (shaN (catB 64 (fun j => keyN f n j ^^^ 54) g) (64 + m))) (64 + 32)) := Lib.hid rfl
  have hb0 : Below w.heap.size w (w.alloc (.cells #[.int .u8 0, .int .u8 0, .int .u8 0, .int .u8 0, .int .u8 0, .int .u8 0, .int .u8 0, .int .u8 0, .int .u8 0, .int .u8 0, .int .u8 0, .int .u8 0, .int .u8 0, .int .u8 0, .int .u8 0, .int .u8 0, .int .u8 0, .int .u8 0, .int .u8 0, .int .u8 0, .int .u8 0, .int .u8 0, .int .u8 0, .int .u8 0, .int .u8 0, .int .u8 0, .int .u8 0, .int .u8 0, .int .u8 0, .int .u8 0, .int .u8 0, .int .u8 0] 25)) := (Below.refl _ _).alloc (Nat.le_refl _) _
  have H0 := Lib.hid (And.intro hb0 (heap_alloc_new w (.cells #[.int .u8 0, .int .u8 0, .int .u8 0, .int .u8 0, .int .u8 0, .int .u8 0, .int .u8 0, .int .u8 0, .int .u8 0, .int .u8 0, .int .u8 0, .int .u8 0, .int .u8 0, .int .u8 0, .int .u8 0, .int .u8 0, .int .u8 0, .int .u8 0, .int .u8 0, .int .u8 0, .int .u8 0, .int .u8 0, .int .u8 0, .int .u8 0, .int .u8 0, .int .u8 0, .int .u8 0, .int .u8 0, .int .u8 0, .int .u8 0, .int .u8 0, .int .u8 0] 25)))
  have hn0 : (0 : Int) ≤ n := by omega
  clear hb0 hm hf hg hru
  go_enter Tryd.func13, Tryd.ntmps13
  go_wp2_with fail
  refine (table_any _).mono ?_
  rintro e w1 ⟨kg, kc, rfl, hg1, hg2, -, hk, hb⟩
  obtain ⟨A, hA⟩ : ∃ A, w1.heap.size = A := ⟨_, rfl⟩
  have HR := Lib.hid (show (w1.alloc (.cells #[.int .u32 0, .int .u32 0, .int .u32 0, .int .u32 0, .int .u32 0, .int .u32 0, .int .u32 0, .int .u32 0] 39)).heap[A]? = some (.cells #[.int .u32 0, .int .u32 0, .int .u32 0, .int .u32 0, .int .u32 0, .int .u32 0, .int .u32 0, .int .u32 0] 39 (0, 0)) from by rw [← hA]; exact heap_alloc_new _ _)
  have HI8 : Hid ((Tryd.prog.info? 39).map (·.size) = some (ar .u32 8 iniH).size) := Lib.hid (by rw [ar_size]; exact infoA)
  have hs1 : w.heap.size < A := by rw [← hA]; exact Nat.lt_of_lt_of_le (by simp) hb.size
  obtain ⟨wA, hwA⟩ : ∃ z, (w1.alloc (.cells #[.int .u32 0, .int .u32 0, .int .u32 0, .int .u32 0, .int .u32 0, .int .u32 0, .int .u32 0, .int .u32 0] 39)).setRow A (ar .u32 8 iniH) = z := ⟨_, rfl⟩
  have H1 := Lib.hid (show Below w.heap.size w wA ∧ wA.heap[w.heap.size]? = some (.cells #[.int .u8 0, .int .u8 0, .int .u8 0, .int .u8 0, .int .u8 0, .int .u8 0, .int .u8 0, .int .u8 0, .int .u8 0, .int .u8 0, .int .u8 0, .int .u8 0, .int .u8 0, .int .u8 0, .int .u8 0, .int .u8 0, .int .u8 0, .int .u8 0, .int .u8 0, .int .u8 0, .int .u8 0, .int .u8 0, .int .u8 0, .int .u8 0, .int .u8 0, .int .u8 0, .int .u8 0, .int .u8 0, .int .u8 0, .int .u8 0, .int .u8 0, .int .u8 0] 25 (0, 0)) ∧ (kg < wA.heap.size ∧ ∀ j, j < 64 → wA.cell? ⟨kg, j, none⟩ = some (.int .u32 (kT j))) ∧ wA.heap[A]? = some (.cells (ar .u32 8 iniH) 39 (0, 0)) from by
    rw [← hwA]
    have hba : Below w.heap.size w (w1.alloc (.cells #[.int .u32 0, .int .u32 0, .int .u32 0, .int .u32 0, .int .u32 0, .int .u32 0, .int .u32 0, .int .u32 0] 39)) := (H0.out.1.trans (hb.mono (by simp))).alloc (by omega) _
    refine ⟨below_setRow hba (by omega) _, (setRow_other _ _ _ _ (by omega)).trans ((heap_alloc_old _ _ (by omega)).trans ((hb.block _ (by simp)).trans H0.out.2)), ⟨by rw [setRow_size]; simp; omega, fun j hj => ?_⟩, setRow_heap _ _ _ _ _ _ HR.out⟩
    refine (World.cell?_of_block (w := w1) (a := ⟨kg, j, none⟩) ?_).trans (hk j hj)
    exact (setRow_other _ _ _ _ (by show kg ≠ A; omega)).trans (heap_alloc_old _ _ hg2))
  clear hg1 hg2 hk hb hs1 H0
  by_cases hbig : 64 < n
  · have hbi : (64 : Int) < n := by omega
    have HK := Lib.hid (key_big (f := f) hbig)
    clear hbig
    go_upto_region 3 with (refine wpList_store_row rfl 39 _ _ rfl A (ar .u32 8 iniH) rfl rfl 39 _ HR.out HI8.out (by rw [ar_size]; rfl) (ar_one _ _ _) ?_)
    try rw [hwA]
    clear hwA HR hA
    go_wp2_with (refine wpList_load_row rfl 39 _ rfl A rfl 39 _ (0, 0) _ H1.out.2.2.2 Tryd.underlying39 rfl HI8.out ?_)
    refine (hash_is n kg kc f _ wA (by omega) HV.out.2.2.2.1 (HU.out.below H1.out.1) H1.out.2.2.1).mono ?_
    rintro e w6 ⟨rfl, hb6⟩
    obtain ⟨X, hX⟩ : ∃ X, w6.heap.size = X := ⟨_, rfl⟩
    obtain ⟨h0, hh0⟩ : ∃ h, shaH f n = h := ⟨_, rfl⟩
    rw [hh0]
    have HH0 := Lib.hid hh0
    have HRX := Lib.hid (show (w6.alloc (.cells #[.int .u8 0, .int .u8 0, .int .u8 0, .int .u8 0, .int .u8 0, .int .u8 0, .int .u8 0, .int .u8 0, .int .u8 0, .int .u8 0, .int .u8 0, .int .u8 0, .int .u8 0, .int .u8 0, .int .u8 0, .int .u8 0, .int .u8 0, .int .u8 0, .int .u8 0, .int .u8 0, .int .u8 0, .int .u8 0, .int .u8 0, .int .u8 0, .int .u8 0, .int .u8 0, .int .u8 0, .int .u8 0, .int .u8 0, .int .u8 0, .int .u8 0, .int .u8 0] 25)).heap[X]? = some (.cells #[.int .u8 0, .int .u8 0, .int .u8 0, .int .u8 0, .int .u8 0, .int .u8 0, .int .u8 0, .int .u8 0, .int .u8 0, .int .u8 0, .int .u8 0, .int .u8 0, .int .u8 0, .int .u8 0, .int .u8 0, .int .u8 0, .int .u8 0, .int .u8 0, .int .u8 0, .int .u8 0, .int .u8 0, .int .u8 0, .int .u8 0, .int .u8 0, .int .u8 0, .int .u8 0, .int .u8 0, .int .u8 0, .int .u8 0, .int .u8 0, .int .u8 0, .int .u8 0] 25 (0, 0)) from by rw [← hX]; exact heap_alloc_new _ _)
    have HI : Hid ((Tryd.prog.info? 25).map (·.size) = some (ar .u8 32 h0).size) := Lib.hid (by rw [ar_size]; exact info32s)
    obtain ⟨W0, hW0⟩ : ∃ z, (w6.alloc (.cells #[.int .u8 0, .int .u8 0, .int .u8 0, .int .u8 0, .int .u8 0, .int .u8 0, .int .u8 0, .int .u8 0, .int .u8 0, .int .u8 0, .int .u8 0, .int .u8 0, .int .u8 0, .int .u8 0, .int .u8 0, .int .u8 0, .int .u8 0, .int .u8 0, .int .u8 0, .int .u8 0, .int .u8 0, .int .u8 0, .int .u8 0, .int .u8 0, .int .u8 0, .int .u8 0, .int .u8 0, .int .u8 0, .int .u8 0, .int .u8 0, .int .u8 0, .int .u8 0] 25)).setRow X (ar .u8 32 h0) = z := ⟨_, rfl⟩
    have hbX : Below wA.heap.size wA W0 := by rw [← hW0]; exact below_setRow (hb6.alloc hb6.size _) (by have := hb6.size; omega) _
    have hrx : W0.heap[X]? = some (.cells (ar .u8 32 h0) 25 (0, 0)) := by rw [← hW0]; exact setRow_heap _ _ _ _ _ _ HRX.out
    have HB := Lib.hid (show Below w.heap.size w W0 ∧ W0.heap[w.heap.size]? = some (.cells #[.int .u8 0, .int .u8 0, .int .u8 0, .int .u8 0, .int .u8 0, .int .u8 0, .int .u8 0, .int .u8 0, .int .u8 0, .int .u8 0, .int .u8 0, .int .u8 0, .int .u8 0, .int .u8 0, .int .u8 0, .int .u8 0, .int .u8 0, .int .u8 0, .int .u8 0, .int .u8 0, .int .u8 0, .int .u8 0, .int .u8 0, .int .u8 0, .int .u8 0, .int .u8 0, .int .u8 0, .int .u8 0, .int .u8 0, .int .u8 0, .int .u8 0, .int .u8 0] 25 (0, 0)) from ⟨H1.out.1.trans (hbX.mono H1.out.1.size), (hbX.block _ (Array.getElem?_eq_some_iff.1 H1.out.2.1).1).trans H1.out.2.1⟩)
    have HD := Lib.hid (show CHd W0 A kg m (.slice av m cv) g from ⟨(hbX.block _ (Array.getElem?_eq_some_iff.1 H1.out.2.2.2).1).trans H1.out.2.2.2, ⟨Nat.lt_of_lt_of_le H1.out.2.2.1.1 hbX.size, fun j hj => (hbX.cell (p := ⟨kg, j, none⟩) H1.out.2.2.1.1).trans (H1.out.2.2.1.2 j hj)⟩, HV.out.1.below HB.out.1, HV.out.2.1, HV.out.2.2.1⟩)
    have HKR := Lib.hid (show RdB W0 (some ⟨X, 0, none⟩) 32 (shaN f n) from .inr ⟨X, 0, rfl, (Array.getElem?_eq_some_iff.1 hrx).1, fun j hj => by
      rw [Nat.zero_add]
      refine ((cell_of_row W0 _ j _ _ _ hrx).trans (ar_at _ _ _ _ hj)).trans ?_
      rw [shaN_cast, HH0.out]⟩)
    have hsl := sl32 X
    clear hb6 hbX hrx hh0 H1
    go_upto_region 5 with (refine wpList_store_row rfl 25 _ _ rfl X (ar .u8 32 h0) rfl rfl 25 _ HRX.out HI.out (by rw [ar_size]; rfl) (ar_one _ _ _) ?_)
    try rw [hW0]
    clear hW0 HRX HI hsl hX
    have HFK := Lib.hid (show ∀ j, shaN f n j < 256 from fun j => shaN_lt _ _ _)
    have HXL := Lib.hid (show (∀ j, keyN f n j ^^^ 54 < 256) ∧ ∀ j, keyN f n j ^^^ 92 < 256 from ⟨fun j => xor_lt (keyN_lt HV.out.2.2.2.1 n j) (by decide), fun j => xor_lt (keyN_lt HV.out.2.2.2.1 n j) (by decide)⟩)
    obtain ⟨x, hx⟩ : ∃ x : Nat → Nat, (fun j => keyN f n j ^^^ 54) = x := ⟨_, rfl⟩
    obtain ⟨y, hy⟩ : ∃ y : Nat → Nat, (fun j => keyN f n j ^^^ 92) = y := ⟨_, rfl⟩
    have HXK := Lib.hid (show ∀ j, j < 64 → x j = (if j < 32 then shaN f n j else 0) ^^^ 54 from fun j _ => by rw [← hx, ← HK.out j])
    have HYK := Lib.hid (show ∀ j, j < 64 → y j = (if j < 32 then shaN f n j else 0) ^^^ 92 from fun j _ => by rw [← hy, ← HK.out j])
    have HXl := Lib.hid (show ∀ j, x j < 256 from fun j => by rw [← hx]; exact HXL.out.1 j)
    have HYl := Lib.hid (show ∀ j, y j < 256 from fun j => by rw [← hy]; exact HXL.out.2 j)
    rw [hx, hy] at HHM
    have HS := Lib.hid (ct_start W0 x y)
    clear hx hy HXL
    go_upto_block 0 with fail
    refine hm_b0 HFK.out HKR.out HXK.out HYK.out HS.out ?_
    intro p11 p27 p28 p29 p30 p31 p32 p33 p34 p35 p36 p37 p38 p39 p40 p41 p42 p43 p44 p45 p46 p47 p48 g1 c1 g2 c2 w2 hc2
    have H2 := Lib.hid hc2
    clear hc2 HS
    obtain ⟨h1, hh1⟩ : ∃ h, shaH (catB 64 x g) (64 + m) = h := ⟨_, rfl⟩
    obtain ⟨q, hq⟩ : ∃ q : Nat → Nat, shaN (catB 64 x g) (64 + m) = q := ⟨_, rfl⟩
    have HQ1 := Lib.hid (show (fun j => ((q j : Nat) : Int)) = h1 from by rw [← hh1, ← hq]; exact funext fun j => shaN_cast _ _ _)
    have HQl := Lib.hid (show ∀ j, q j < 256 from fun j => by rw [← hq]; exact shaN_lt _ _ _)
    rw [hq] at HHM
    have HH1 := Lib.hid hh1
    obtain ⟨h2, hh2⟩ : ∃ h, hmacH f n g m = h := ⟨_, rfl⟩
    rw [hh2] at HHM
    have HH2 := Lib.hid hh2
    clear hh1 hq hh2
    go_upto_region 13 with fail
    refine hm_r13 HXl.out HD.out H2.out HH1.out (fun _ _ d _ _ h => by cases d <;> exact h) ?_
    intro r49 r50 r51 r52 r53 r54 T w3 hb3 ho3 hT3
    have H3 := Lib.hid (And.intro hb3 (And.intro ho3 hT3))
    clear hb3 ho3 hT3 H2
    go_upto_region 14 with fail
    refine hm_r14 (h2 := h2) HYl.out HQl.out HQ1.out HD.out HB.out.2 rfl H3.out.1 H3.out.2.1 H3.out.2.2 HHM.out.symm (fun _ _ d _ _ h => by cases d <;> exact h) ?_
    intro r55 r56 r57 r58 r59 r60 w4 hb4
    have hR4 := (hb4.block _ (Array.getElem?_eq_some_iff.1 HB.out.2).1).trans HB.out.2
    have H4 := Lib.hid (show Below w.heap.size w (w4.setRow w.heap.size (ar .u8 32 h2)) ∧ (w4.setRow w.heap.size (ar .u8 32 h2)).heap[w.heap.size]? = some (.cells (ar .u8 32 h2) 25 (0, 0)) from ⟨below_setRow (HB.out.1.trans (hb4.mono HB.out.1.size)) (Nat.le_refl _) _, setRow_heap _ _ _ _ _ _ hR4⟩)
    obtain ⟨w5, hw5⟩ : ∃ z, w4.setRow w.heap.size (ar .u8 32 h2) = z := ⟨_, rfl⟩
    rw [hw5] at H4 ⊢
    clear hw5 hb4 hR4 H3
    go_wp2_with fail
    refine bodyPost_ret (v := .agg (ar .u8 32 h2)) (results_cell_row (p := 4) rfl _ _ w.heap.size 25 _ (0, 0) _ rfl H4.out.2 Tryd.underlying25 rfl (by rw [ar_size]; exact info32s)) rfl ⟨by rw [HH2.out], H4.out.1⟩
  · have hbi : ¬ ((64 : Int) < n) := by omega
    have HK := Lib.hid (key_small (f := f) (Nat.le_of_not_lt hbig))
    clear hbig
    have HB := Lib.hid (And.intro H1.out.1 H1.out.2.1)
    have HD := Lib.hid (show CHd wA A kg m (.slice av m cv) g from ⟨H1.out.2.2.2, H1.out.2.2.1, HV.out.1.below H1.out.1, HV.out.2.1, HV.out.2.2.1⟩)
    have HKR := Lib.hid (show RdB wA au n f from HRU.out.below H1.out.1)
    have HFK := Lib.hid HV.out.2.2.2.1
    go_upto_region 5 with (refine wpList_store_row rfl 39 _ _ rfl A (ar .u32 8 iniH) rfl rfl 39 _ HR.out HI8.out (by rw [ar_size]; rfl) (ar_one _ _ _) ?_)
    try rw [hwA]
    clear hwA HR H1 hA
    have HXL := Lib.hid (show (∀ j, keyN f n j ^^^ 54 < 256) ∧ ∀ j, keyN f n j ^^^ 92 < 256 from ⟨fun j => xor_lt (keyN_lt HV.out.2.2.2.1 n j) (by decide), fun j => xor_lt (keyN_lt HV.out.2.2.2.1 n j) (by decide)⟩)
    obtain ⟨x, hx⟩ : ∃ x : Nat → Nat, (fun j => keyN f n j ^^^ 54) = x := ⟨_, rfl⟩
    obtain ⟨y, hy⟩ : ∃ y : Nat → Nat, (fun j => keyN f n j ^^^ 92) = y := ⟨_, rfl⟩
    have HXK := Lib.hid (show ∀ j, j < 64 → x j = (if j < n then f j else 0) ^^^ 54 from fun j _ => by rw [← hx, ← HK.out j])
    have HYK := Lib.hid (show ∀ j, j < 64 → y j = (if j < n then f j else 0) ^^^ 92 from fun j _ => by rw [← hy, ← HK.out j])
    have HXl := Lib.hid (show ∀ j, x j < 256 from fun j => by rw [← hx]; exact HXL.out.1 j)
    have HYl := Lib.hid (show ∀ j, y j < 256 from fun j => by rw [← hy]; exact HXL.out.2 j)
    rw [hx, hy] at HHM
    have HS := Lib.hid (ct_start wA x y)
    clear hx hy HXL
    go_upto_block 0 with fail
    refine hm_b0 HFK.out HKR.out HXK.out HYK.out HS.out ?_
    intro p11 p27 p28 p29 p30 p31 p32 p33 p34 p35 p36 p37 p38 p39 p40 p41 p42 p43 p44 p45 p46 p47 p48 g1 c1 g2 c2 w2 hc2
    have H2 := Lib.hid hc2
    clear hc2 HS
    obtain ⟨h1, hh1⟩ : ∃ h, shaH (catB 64 x g) (64 + m) = h := ⟨_, rfl⟩
    obtain ⟨q, hq⟩ : ∃ q : Nat → Nat, shaN (catB 64 x g) (64 + m) = q := ⟨_, rfl⟩
    have HQ1 := Lib.hid (show (fun j => ((q j : Nat) : Int)) = h1 from by rw [← hh1, ← hq]; exact funext fun j => shaN_cast _ _ _)
    have HQl := Lib.hid (show ∀ j, q j < 256 from fun j => by rw [← hq]; exact shaN_lt _ _ _)
    rw [hq] at HHM
    have HH1 := Lib.hid hh1
    obtain ⟨h2, hh2⟩ : ∃ h, hmacH f n g m = h := ⟨_, rfl⟩
    rw [hh2] at HHM
    have HH2 := Lib.hid hh2
    clear hh1 hq hh2
    go_upto_region 13 with fail
    refine hm_r13 HXl.out HD.out H2.out HH1.out (fun _ _ d _ _ h => by cases d <;> exact h) ?_
    intro r49 r50 r51 r52 r53 r54 T w3 hb3 ho3 hT3
    have H3 := Lib.hid (And.intro hb3 (And.intro ho3 hT3))
    clear hb3 ho3 hT3 H2
    go_upto_region 14 with fail
    refine hm_r14 (h2 := h2) HYl.out HQl.out HQ1.out HD.out HB.out.2 rfl H3.out.1 H3.out.2.1 H3.out.2.2 HHM.out.symm (fun _ _ d _ _ h => by cases d <;> exact h) ?_
    intro r55 r56 r57 r58 r59 r60 w4 hb4
    have hR4 := (hb4.block _ (Array.getElem?_eq_some_iff.1 HB.out.2).1).trans HB.out.2
    have H4 := Lib.hid (show Below w.heap.size w (w4.setRow w.heap.size (ar .u8 32 h2)) ∧ (w4.setRow w.heap.size (ar .u8 32 h2)).heap[w.heap.size]? = some (.cells (ar .u8 32 h2) 25 (0, 0)) from ⟨below_setRow (HB.out.1.trans (hb4.mono HB.out.1.size)) (Nat.le_refl _) _, setRow_heap _ _ _ _ _ _ hR4⟩)
    obtain ⟨w5, hw5⟩ : ∃ z, w4.setRow w.heap.size (ar .u8 32 h2) = z := ⟨_, rfl⟩
    rw [hw5] at H4 ⊢
    clear hw5 hb4 hR4 H3
    go_wp2_with fail
    refine bodyPost_ret (v := .agg (ar .u8 32 h2)) (results_cell_row (p := 4) rfl _ _ w.heap.size 25 _ (0, 0) _ rfl H4.out.2 Tryd.underlying25 rfl (by rw [ar_size]; exact info32s)) rfl ⟨by rw [HH2.out], H4.out.1⟩
end Go.Proofs.YtkecehcnoihiiaaDoor
namespace Go.Proofs.YtkecehcnoihiiaaDoor
open Go.RowKit

theorem run_eq32 {a : Act} {o : Oper} {h : Nat → Int} {x y : Operand} {T2 : TypeId} (ho : o.op = .binOp .eql 25 x y T2) (hx : a.eval x = .agg (ar .u8 32 h)) (hy : a.eval y = .agg (ar .u8 32 h)) (w : World) : (execOp a.eval o).run Tryd.prog w = .ok (.value (.bool true)) w := by
  unfold execOp
  rw [ho]
  simp only [hx, hy, Sem.run_bind, eqg32, eq32, Result.andThen_ok, Sem.run_pure]
/-- The bytes copied onto an empty list just made: they lie there, they are one's own, nothing has turned. -/
theorem copiedO {w : World} {H D : Nat} {v : Value} {n : Nat} {f : Nat → Nat} (hD : Own8 H f 0 (.slice (some ⟨D, 0, none⟩) 0 0) w) (h : ArgB w v n f) (hn : n ≤ 1048576) (hH : H ≤ w.heap.size) : ∃ g c w', (Builtin.append_ #[22, 22] 22 #[.slice (some ⟨D, 0, none⟩) 0 0, v]).run Tryd.prog w = .ok (.slice (some ⟨g, 0, none⟩) n c) w' ∧ Own8 H f n (.slice (some ⟨g, 0, none⟩) n c) w' ∧ Below w.heap.size w w' ∧ (g = D ∨ w.heap.size ≤ g) := by
  have hDl := hD.lt D rfl
  rcases Nat.eq_zero_or_pos n with rfl | h0
  · obtain ⟨i0, hi, hz0, hz1, hz2⟩ := info_partsB info8
    obtain ⟨a, cap, rfl, hc, hn0, hr⟩ := h
    refine ⟨D, 0, w, ?_, hD, Below.refl _ _, .inl rfl⟩
    cases a with
    | none =>
      obtain rfl := hn0 rfl
      simp [Builtin.append_, run_underlying Tryd.underlying22, sizeOf, typeInfo, hi, go_sem]
    | some q => simp [Builtin.append_, run_underlying Tryd.underlying22, sizeOf, typeInfo, hi, go_sem]
  · obtain ⟨g, c, w', h1, h2, h3, h4, h5, h6⟩ := copied hDl.2 h (by omega)
    obtain ⟨v2, w2, k1, k2, k3, k4⟩ := copy_own (k := 0) (g := f) hD ⟨_, _, rfl⟩ h (by omega) hH 22
    rw [h1] at k1
    injection k1 with e1 e2
    subst e1 e2
    refine ⟨g, c, w', h1, ?_, h6, .inr (h4 h0)⟩
    rw [Nat.zero_add] at k2
    simpa [Own8, p8] using k2
theorem own_slb {w : World} {H n g c : Nat} {f : Nat → Nat} (h : Own8 H f n (.slice (some ⟨g, 0, none⟩) n c) w) : n ≤ c ∧ g < w.heap.size ∧ ∀ j, j < n → w.cell? ⟨g, 0 + j, none⟩ = some (.int .u8 (f j : Nat)) := by
  refine ⟨?_, (h.lt g rfl).2, fun j hj => ?_⟩
  · obtain ⟨-, h2⟩ := h
    rcases h2 with ⟨h2, h3⟩ | ⟨g', cap, cur, e1, -, -, e4, -⟩
    · cases h2
    · cases e1
      exact e4
  · rw [Nat.zero_add]
    exact (h.cellAt j (by omega)).trans (p8_at _ _ _ hj)
/-- Bytes with noughts behind. -/
def padZ (f : Nat → Nat) (n j : Nat) : Nat := if j < n then f j else 0
theorem padZ_lt {f : Nat → Nat} (hf : ∀ j, f j < 256) (n j : Nat) : padZ f n j < 256 := by
  unfold padZ
  split
  · exact hf _
  · decide
theorem key_pad {f : Nat → Nat} {n : Nat} (h : n < 64) : keyN (padZ f n) (n + 1) = keyN f n := by
  funext j
  rw [key_small (show n + 1 ≤ 64 by omega), key_small (show n ≤ 64 by omega)]
  unfold padZ
  by_cases h1 : j < n
  · rw [if_pos (by omega), if_pos h1]
  · rw [if_neg h1]
    split <;> rfl
theorem hmac_pad {f g : Nat → Nat} {n m : Nat} (h : n < 64) : hmacH (padZ f n) (n + 1) g m = hmacH f n g m := by unfold hmacH; rw [key_pad h]
theorem p8_pad (f : Nat → Nat) (n : Nat) : p8 f n ++ [.int .u8 0] = p8 (padZ f n) (n + 1) := by
  rw [← p8_next, p8_congr (show ∀ j, j < n → f j = padZ f n j from fun j hj => by unfold padZ; rw [if_pos hj])]
  unfold padZ
  rw [if_neg (by omega)]
  rfl
set_option maxRecDepth 100000 in
set_option maxHeartbeats 8000000 in
-- THE DRAWN STATEMENT.
theorem sk_r5 {w wr : World} {B n cap m cap2 : Nat} {a b : Option Addr} {f g : Nat → Nat} {y0 : Nat → Int} (hn : n < 64) (hm : m ≤ 1048576) (hf : ∀ j, f j < 256) (hg : ∀ j, g j < 256) (hT : STab w) (hb0 : Below w.heap.size w wr) (hu : ArgB w (.slice a n cap) n f) (hv : ArgB w (.slice b m cap2) m g) (hB : wr.heap[B]? = some (.cells (ar .u8 32 y0) 25 (0, 0))) (hh : hmacH f n g m = y0) {Q : Exit → Act → World → Prop}
    {s2 s3 s4 s6 s7 s8 s9 s10 s11 s12 s13 s14 s15 s16 s17 s18 s19 s20 s21 s22 s23 s24 s25 s26 s27 s28 s29 s30 s31 s32 s33 s34 s35 : Value} (hQP : ∀ c (a : Act) d v w, Q (.panic c) (a.put d v) w → Q (.panic c) a w) (hQ : ∀ (u21 u22 u23 u24 u25 u26 u27 u28 u29 u30 u31 u32 u33 u34 : Value) (wx : World), Below wr.heap.size wr wx → Q .normal ⟨(.slice a n cap :: .slice b m cap2 :: s2 :: s3 :: .bool true :: .pointer (some ⟨B, 0, none⟩) :: s6 :: s7 :: s8 :: s9 :: s10 :: s11 :: s12 :: s13 :: s14 :: s15 :: s16 :: s17 :: s18 :: s19 :: s20 :: u21 :: u22 :: u23 :: u24 :: u25 :: u26 :: u27 :: u28 :: u29 :: u30 :: u31 :: u32 :: u33 :: u34 :: s35 :: []).toArray, []⟩ wx) : (Code.region 5 ((Tryd.f4.body.bind (regIn 5)).getD #[]) true).wp Tryd.prog Q ⟨(.slice a n cap :: .slice b m cap2 :: s2 :: s3 :: s4 :: .pointer (some ⟨B, 0, none⟩) :: s6 :: s7 :: s8 :: s9 :: s10 :: s11 :: s12 :: s13 :: s14 :: s15 :: s16 :: s17 :: s18 :: s19 :: s20 :: s21 :: s22 :: s23 :: s24 :: s25 :: s26 :: s27 :: s28 :: s29 :: s30 :: s31 :: s32 :: s33 :: s34 :: s35 :: []).toArray, []⟩ wr := by
  obtain ⟨i0, hi, hz0, hz1, hz2⟩ := info_partsB info8
  have hBl : B < wr.heap.size := (Array.getElem?_eq_some_iff.1 hB).1
  have ST02345789 : ∀ (L : Array Bool) (F : Act) (wx : World) (D : Nat) (g3 c3 : Nat) (Z : Nat) (g5 c5 : Nat) (E : Nat) (g7 c7 : Nat), L = #[true, true, true, true, true, true, true, true, true, true, false, false, false, false, false] → F = ⟨(.slice a n cap :: .slice b m cap2 :: s2 :: s3 :: s4 :: .pointer (some ⟨B, 0, none⟩) :: s6 :: s7 :: s8 :: s9 :: s10 :: s11 :: s12 :: s13 :: s14 :: s15 :: s16 :: s17 :: s18 :: s19 :: s20 :: .slice (some ⟨D, 0, none⟩) 0 0 :: .slice a n cap :: .slice (some ⟨g3, 0, none⟩) n c3 :: .slice (some ⟨Z, 0, none⟩) 1 1 :: .slice (some ⟨g5, 0, none⟩) (n + 1) c5 :: .slice (some ⟨E, 0, none⟩) 0 0 :: .slice b m cap2 :: .slice (some ⟨g7, 0, none⟩) m c7 :: .agg (ar .u8 32 y0) :: .agg (ar .u8 32 y0) :: s31 :: s32 :: s33 :: s34 :: s35 :: []).toArray, []⟩ → (Below wr.heap.size wr wx) → wpAny Tryd.prog .any ((Tryd.f4.body.bind (regIn 5)).getD #[]) Q 5 L F wx := by
    intro L F wx D g3 c3 Z g5 c5 E g7 c7 hL hF h
    subst hL hF
    refine wpAny_take (i := 10) (v := .bool true) rfl (by kernel_rfl) (by kernel_rfl) (by kernel_rfl) (fun c a w h => hQP c a _ _ w h) (Or.inl ⟨by kernel_rfl, fun w => run_eq32 (h := y0) rfl (by kernel_rfl) (by kernel_rfl) w⟩) ?_
    refine wpAny_take (i := 11) (v := .bool true) rfl (by kernel_rfl) (by kernel_rfl) (by kernel_rfl) (fun c a w h => hQP c a _ _ w h) (Or.inl ⟨by kernel_rfl, fun _ => by kernel_rfl⟩) ?_
    refine wpAny_all (rs := [12]) (by kernel_rfl) (by decide) ?_
    intro i hi
    obtain rfl : i = 12 := by simpa using hi
    refine op_call 11 #[] rfl (by kernel_rfl) (by kernel_rfl) ?_
    refine (slives wx (stab_below hT (hb0.trans (h.mono hb0.size)))).mono ?_
    rintro e w' ⟨rfl, hb⟩
    refine ⟨_, rfl, ?_⟩
    refine wpAny_take (i := 13) (v := .bool true) rfl (by kernel_rfl) (by kernel_rfl) (by kernel_rfl) (fun c a w h => hQP c a _ _ w h) (Or.inl ⟨by kernel_rfl, fun _ => by kernel_rfl⟩) ?_
    refine wpAny_take (i := 14) (v := .bool true) rfl (by kernel_rfl) (by kernel_rfl) (by kernel_rfl) (fun c a w h => hQP c a _ _ w h) (Or.inl ⟨by kernel_rfl, fun _ => by kernel_rfl⟩) ?_
    exact wpAny_done (by kernel_rfl) (hQ _ _ _ _ _ _ _ _ _ _ _ _ _ _ w' (h.trans (hb.mono h.size))) _
  have ST0234578 : ∀ (L : Array Bool) (F : Act) (wx : World) (D : Nat) (g3 c3 : Nat) (Z : Nat) (g5 c5 : Nat) (E : Nat) (g7 c7 : Nat), L = #[true, true, true, true, true, true, true, true, true, false, false, false, false, false, false] → F = ⟨(.slice a n cap :: .slice b m cap2 :: s2 :: s3 :: s4 :: .pointer (some ⟨B, 0, none⟩) :: s6 :: s7 :: s8 :: s9 :: s10 :: s11 :: s12 :: s13 :: s14 :: s15 :: s16 :: s17 :: s18 :: s19 :: s20 :: .slice (some ⟨D, 0, none⟩) 0 0 :: .slice a n cap :: .slice (some ⟨g3, 0, none⟩) n c3 :: .slice (some ⟨Z, 0, none⟩) 1 1 :: .slice (some ⟨g5, 0, none⟩) (n + 1) c5 :: .slice (some ⟨E, 0, none⟩) 0 0 :: .slice b m cap2 :: .slice (some ⟨g7, 0, none⟩) m c7 :: .agg (ar .u8 32 y0) :: s30 :: s31 :: s32 :: s33 :: s34 :: s35 :: []).toArray, []⟩ → (Below wr.heap.size wr wx) → wpAny Tryd.prog .any ((Tryd.f4.body.bind (regIn 5)).getD #[]) Q 6 L F wx := by
    intro L F wx D g3 c3 Z g5 c5 E g7 c7 hL hF h
    subst hL hF
    refine wpAny_all (rs := [9]) (by kernel_rfl) (by decide) ?_
    intro i hi
    simp only [List.mem_cons, List.not_mem_nil, or_false] at hi
    subst hi
    refine op_load 25 (.tmp 5) (.pointer (some ⟨B, 0, none⟩)) (.agg (ar .u8 32 y0)) rfl rfl (by kernel_rfl) (by kernel_rfl) (ld32 ((h.block _ hBl).trans hB)) ?_
    exact ST02345789 _ _ _ D g3 c3 Z g5 c5 E g7 c7 (by kernel_rfl) (by kernel_rfl) h
  have ST0234579 : ∀ (L : Array Bool) (F : Act) (wx : World) (D : Nat) (g3 c3 : Nat) (Z : Nat) (g5 c5 : Nat) (E : Nat) (g7 c7 : Nat), L = #[true, true, true, true, true, true, true, true, false, true, false, false, false, false, false] → F = ⟨(.slice a n cap :: .slice b m cap2 :: s2 :: s3 :: s4 :: .pointer (some ⟨B, 0, none⟩) :: s6 :: s7 :: s8 :: s9 :: s10 :: s11 :: s12 :: s13 :: s14 :: s15 :: s16 :: s17 :: s18 :: s19 :: s20 :: .slice (some ⟨D, 0, none⟩) 0 0 :: .slice a n cap :: .slice (some ⟨g3, 0, none⟩) n c3 :: .slice (some ⟨Z, 0, none⟩) 1 1 :: .slice (some ⟨g5, 0, none⟩) (n + 1) c5 :: .slice (some ⟨E, 0, none⟩) 0 0 :: .slice b m cap2 :: .slice (some ⟨g7, 0, none⟩) m c7 :: s29 :: .agg (ar .u8 32 y0) :: s31 :: s32 :: s33 :: s34 :: s35 :: []).toArray, []⟩ → (Below wr.heap.size wr wx ∧ Own8 wr.heap.size (padZ f n) (n + 1) (.slice (some ⟨g5, 0, none⟩) (n + 1) c5) wx ∧ (m ≤ c7 ∧ g7 < wx.heap.size ∧ ∀ j, j < m → wx.cell? ⟨g7, 0 + j, none⟩ = some (.int .u8 (g j : Nat)))) → wpAny Tryd.prog .any ((Tryd.f4.body.bind (regIn 5)).getD #[]) Q 6 L F wx := by
    intro L F wx D g3 c3 Z g5 c5 E g7 c7 hL hF h
    subst hL hF
    refine wpAny_all (rs := [8]) (by kernel_rfl) (by decide) ?_
    intro i hi
    simp only [List.mem_cons, List.not_mem_nil, or_false] at hi
    subst hi
    refine op_call 12 #[.slice (some ⟨g5, 0, none⟩) (n + 1) c5, .slice (some ⟨g7, 0, none⟩) m c7] rfl (by kernel_rfl) (by kernel_rfl) ?_
    refine (hhmac (by omega) (by omega) (padZ_lt hf n) hg wx (stab_below hT (hb0.trans (h.1.mono hb0.size))) (own_arg h.2.1) (slb_arg ⟨g7, c7, rfl, h.2.2⟩)).mono ?_
    rintro e w' ⟨rfl, hb⟩
    rw [hmac_pad hn, hh]
    exact ⟨_, rfl, ST02345789 _ _ _ D g3 c3 Z g5 c5 E g7 c7 (by kernel_rfl) (by kernel_rfl) (h.1.trans (hb.mono h.1.size))⟩
  have ST023457 : ∀ (L : Array Bool) (F : Act) (wx : World) (D : Nat) (g3 c3 : Nat) (Z : Nat) (g5 c5 : Nat) (E : Nat) (g7 c7 : Nat), L = #[true, true, true, true, true, true, true, true, false, false, false, false, false, false, false] → F = ⟨(.slice a n cap :: .slice b m cap2 :: s2 :: s3 :: s4 :: .pointer (some ⟨B, 0, none⟩) :: s6 :: s7 :: s8 :: s9 :: s10 :: s11 :: s12 :: s13 :: s14 :: s15 :: s16 :: s17 :: s18 :: s19 :: s20 :: .slice (some ⟨D, 0, none⟩) 0 0 :: .slice a n cap :: .slice (some ⟨g3, 0, none⟩) n c3 :: .slice (some ⟨Z, 0, none⟩) 1 1 :: .slice (some ⟨g5, 0, none⟩) (n + 1) c5 :: .slice (some ⟨E, 0, none⟩) 0 0 :: .slice b m cap2 :: .slice (some ⟨g7, 0, none⟩) m c7 :: s29 :: s30 :: s31 :: s32 :: s33 :: s34 :: s35 :: []).toArray, []⟩ → (Below wr.heap.size wr wx ∧ Own8 wr.heap.size (padZ f n) (n + 1) (.slice (some ⟨g5, 0, none⟩) (n + 1) c5) wx ∧ (m ≤ c7 ∧ g7 < wx.heap.size ∧ ∀ j, j < m → wx.cell? ⟨g7, 0 + j, none⟩ = some (.int .u8 (g j : Nat)))) → wpAny Tryd.prog .any ((Tryd.f4.body.bind (regIn 5)).getD #[]) Q 7 L F wx := by
    intro L F wx D g3 c3 Z g5 c5 E g7 c7 hL hF h
    subst hL hF
    refine wpAny_all (rs := [8, 9]) (by kernel_rfl) (by decide) ?_
    intro i hi
    simp only [List.mem_cons, List.not_mem_nil, or_false] at hi
    rcases hi with rfl | rfl
    · refine op_call 12 #[.slice (some ⟨g5, 0, none⟩) (n + 1) c5, .slice (some ⟨g7, 0, none⟩) m c7] rfl (by kernel_rfl) (by kernel_rfl) ?_
      refine (hhmac (by omega) (by omega) (padZ_lt hf n) hg wx (stab_below hT (hb0.trans (h.1.mono hb0.size))) (own_arg h.2.1) (slb_arg ⟨g7, c7, rfl, h.2.2⟩)).mono ?_
      rintro e w' ⟨rfl, hb⟩
      rw [hmac_pad hn, hh]
      exact ⟨_, rfl, ST0234578 _ _ _ D g3 c3 Z g5 c5 E g7 c7 (by kernel_rfl) (by kernel_rfl) (h.1.trans (hb.mono h.1.size))⟩
    · refine op_load 25 (.tmp 5) (.pointer (some ⟨B, 0, none⟩)) (.agg (ar .u8 32 y0)) rfl rfl (by kernel_rfl) (by kernel_rfl) (ld32 ((h.1.block _ hBl).trans hB)) ?_
      exact ST0234579 _ _ _ D g3 c3 Z g5 c5 E g7 c7 (by kernel_rfl) (by kernel_rfl) h
  have ST023459 : ∀ (L : Array Bool) (F : Act) (wx : World) (D : Nat) (g3 c3 : Nat) (Z : Nat) (g5 c5 : Nat) (E : Nat), L = #[true, true, true, true, true, true, true, false, false, true, false, false, false, false, false] → F = ⟨(.slice a n cap :: .slice b m cap2 :: s2 :: s3 :: s4 :: .pointer (some ⟨B, 0, none⟩) :: s6 :: s7 :: s8 :: s9 :: s10 :: s11 :: s12 :: s13 :: s14 :: s15 :: s16 :: s17 :: s18 :: s19 :: s20 :: .slice (some ⟨D, 0, none⟩) 0 0 :: .slice a n cap :: .slice (some ⟨g3, 0, none⟩) n c3 :: .slice (some ⟨Z, 0, none⟩) 1 1 :: .slice (some ⟨g5, 0, none⟩) (n + 1) c5 :: .slice (some ⟨E, 0, none⟩) 0 0 :: .slice b m cap2 :: s28 :: s29 :: .agg (ar .u8 32 y0) :: s31 :: s32 :: s33 :: s34 :: s35 :: []).toArray, []⟩ → (Below wr.heap.size wr wx ∧ Own8 wr.heap.size (padZ f n) (n + 1) (.slice (some ⟨g5, 0, none⟩) (n + 1) c5) wx ∧ Own8 wr.heap.size g 0 (.slice (some ⟨E, 0, none⟩) 0 0) wx) → wpAny Tryd.prog .any ((Tryd.f4.body.bind (regIn 5)).getD #[]) Q 7 L F wx := by
    intro L F wx D g3 c3 Z g5 c5 E hL hF h
    subst hL hF
    refine wpAny_all (rs := [7]) (by kernel_rfl) (by decide) ?_
    intro i hi
    simp only [List.mem_cons, List.not_mem_nil, or_false] at hi
    subst hi
    obtain ⟨g7, c7, w', hr, ho, hb, hgg⟩ := copiedO h.2.2 (hv.below (hb0.trans (h.1.mono hb0.size))) hm h.1.size
    refine op_val (.slice (some ⟨g7, 0, none⟩) m c7) rfl (by kernel_rfl) (run_app (.tmp 26) (.tmp 27) (.slice (some ⟨E, 0, none⟩) 0 0) (.slice b m cap2) _ rfl rfl (by kernel_rfl) (by kernel_rfl) hr) ?_
    exact ST0234579 _ _ _ D g3 c3 Z g5 c5 E g7 c7 (by kernel_rfl) (by kernel_rfl) ⟨h.1.trans (hb.mono h.1.size), own8_below h.2.1 hb, own_slb ho⟩
  have ST02345 : ∀ (L : Array Bool) (F : Act) (wx : World) (D : Nat) (g3 c3 : Nat) (Z : Nat) (g5 c5 : Nat) (E : Nat), L = #[true, true, true, true, true, true, true, false, false, false, false, false, false, false, false] → F = ⟨(.slice a n cap :: .slice b m cap2 :: s2 :: s3 :: s4 :: .pointer (some ⟨B, 0, none⟩) :: s6 :: s7 :: s8 :: s9 :: s10 :: s11 :: s12 :: s13 :: s14 :: s15 :: s16 :: s17 :: s18 :: s19 :: s20 :: .slice (some ⟨D, 0, none⟩) 0 0 :: .slice a n cap :: .slice (some ⟨g3, 0, none⟩) n c3 :: .slice (some ⟨Z, 0, none⟩) 1 1 :: .slice (some ⟨g5, 0, none⟩) (n + 1) c5 :: .slice (some ⟨E, 0, none⟩) 0 0 :: .slice b m cap2 :: s28 :: s29 :: s30 :: s31 :: s32 :: s33 :: s34 :: s35 :: []).toArray, []⟩ → (Below wr.heap.size wr wx ∧ Own8 wr.heap.size (padZ f n) (n + 1) (.slice (some ⟨g5, 0, none⟩) (n + 1) c5) wx ∧ Own8 wr.heap.size g 0 (.slice (some ⟨E, 0, none⟩) 0 0) wx) → wpAny Tryd.prog .any ((Tryd.f4.body.bind (regIn 5)).getD #[]) Q 8 L F wx := by
    intro L F wx D g3 c3 Z g5 c5 E hL hF h
    subst hL hF
    refine wpAny_all (rs := [7, 9]) (by kernel_rfl) (by decide) ?_
    intro i hi
    simp only [List.mem_cons, List.not_mem_nil, or_false] at hi
    rcases hi with rfl | rfl
    · obtain ⟨g7, c7, w', hr, ho, hb, hgg⟩ := copiedO h.2.2 (hv.below (hb0.trans (h.1.mono hb0.size))) hm h.1.size
      refine op_val (.slice (some ⟨g7, 0, none⟩) m c7) rfl (by kernel_rfl) (run_app (.tmp 26) (.tmp 27) (.slice (some ⟨E, 0, none⟩) 0 0) (.slice b m cap2) _ rfl rfl (by kernel_rfl) (by kernel_rfl) hr) ?_
      exact ST023457 _ _ _ D g3 c3 Z g5 c5 E g7 c7 (by kernel_rfl) (by kernel_rfl) ⟨h.1.trans (hb.mono h.1.size), own8_below h.2.1 hb, own_slb ho⟩
    · refine op_load 25 (.tmp 5) (.pointer (some ⟨B, 0, none⟩)) (.agg (ar .u8 32 y0)) rfl rfl (by kernel_rfl) (by kernel_rfl) (ld32 ((h.1.block _ hBl).trans hB)) ?_
      exact ST023459 _ _ _ D g3 c3 Z g5 c5 E (by kernel_rfl) (by kernel_rfl) h
  have ST02349 : ∀ (L : Array Bool) (F : Act) (wx : World) (D : Nat) (g3 c3 : Nat) (Z : Nat) (g5 c5 : Nat), L = #[true, true, true, true, true, false, true, false, false, true, false, false, false, false, false] → F = ⟨(.slice a n cap :: .slice b m cap2 :: s2 :: s3 :: s4 :: .pointer (some ⟨B, 0, none⟩) :: s6 :: s7 :: s8 :: s9 :: s10 :: s11 :: s12 :: s13 :: s14 :: s15 :: s16 :: s17 :: s18 :: s19 :: s20 :: .slice (some ⟨D, 0, none⟩) 0 0 :: .slice a n cap :: .slice (some ⟨g3, 0, none⟩) n c3 :: .slice (some ⟨Z, 0, none⟩) 1 1 :: .slice (some ⟨g5, 0, none⟩) (n + 1) c5 :: s26 :: .slice b m cap2 :: s28 :: s29 :: .agg (ar .u8 32 y0) :: s31 :: s32 :: s33 :: s34 :: s35 :: []).toArray, []⟩ → (Below wr.heap.size wr wx ∧ Own8 wr.heap.size (padZ f n) (n + 1) (.slice (some ⟨g5, 0, none⟩) (n + 1) c5) wx) → wpAny Tryd.prog .any ((Tryd.f4.body.bind (regIn 5)).getD #[]) Q 8 L F wx := by
    intro L F wx D g3 c3 Z g5 c5 hL hF h
    subst hL hF
    refine wpAny_all (rs := [5]) (by kernel_rfl) (by decide) ?_
    intro i hi
    simp only [List.mem_cons, List.not_mem_nil, or_false] at hi
    subst hi
    have hb : Below wx.heap.size wx (wx.alloc (.cells #[] 5)) := (Below.refl _ _).alloc (Nat.le_refl _) _
    refine op_val (.slice (some ⟨wx.heap.size, 0, none⟩) 0 0) rfl (by kernel_rfl) (w' := wx.alloc (.cells #[] 5)) (by kernel_rfl) ?_
    have ho : Own8 wr.heap.size g 0 (.slice (some ⟨wx.heap.size, 0, none⟩) 0 0) (wx.alloc (.cells #[] 5)) := by simpa [Own8, p8] using World.ownsRow_made (base := wr.heap.size) (e := 5) (size := 1) wx #[] 0 h.1.size (by decide) (by simp)
    exact ST023459 _ _ _ D g3 c3 Z g5 c5 wx.heap.size (by kernel_rfl) (by kernel_rfl) ⟨h.1.trans (hb.mono h.1.size), own8_below h.2 hb, ho⟩
  have ST02359 : ∀ (L : Array Bool) (F : Act) (wx : World) (D : Nat) (g3 c3 : Nat) (Z : Nat) (E : Nat), L = #[true, true, true, true, false, true, true, false, false, true, false, false, false, false, false] → F = ⟨(.slice a n cap :: .slice b m cap2 :: s2 :: s3 :: s4 :: .pointer (some ⟨B, 0, none⟩) :: s6 :: s7 :: s8 :: s9 :: s10 :: s11 :: s12 :: s13 :: s14 :: s15 :: s16 :: s17 :: s18 :: s19 :: s20 :: .slice (some ⟨D, 0, none⟩) 0 0 :: .slice a n cap :: .slice (some ⟨g3, 0, none⟩) n c3 :: .slice (some ⟨Z, 0, none⟩) 1 1 :: s25 :: .slice (some ⟨E, 0, none⟩) 0 0 :: .slice b m cap2 :: s28 :: s29 :: .agg (ar .u8 32 y0) :: s31 :: s32 :: s33 :: s34 :: s35 :: []).toArray, []⟩ → (Below wr.heap.size wr wx ∧ Own8 wr.heap.size f n (.slice (some ⟨g3, 0, none⟩) n c3) wx ∧ (Z < wx.heap.size ∧ wx.cell? ⟨Z, 0, none⟩ = some (.int .u8 0)) ∧ Own8 wr.heap.size g 0 (.slice (some ⟨E, 0, none⟩) 0 0) wx ∧ g3 ≠ E) → wpAny Tryd.prog .any ((Tryd.f4.body.bind (regIn 5)).getD #[]) Q 8 L F wx := by
    intro L F wx D g3 c3 Z E hL hF h
    subst hL hF
    refine wpAny_all (rs := [4]) (by kernel_rfl) (by decide) ?_
    intro i hi
    simp only [List.mem_cons, List.not_mem_nil, or_false] at hi
    subst hi
    refine op_wp rfl (by kernel_rfl) (wp_append_lies wx (.tmp 23) (.tmp 24) 22 rfl wr.heap.size 5 i0 (.int .u8 0) 1 1 Tryd.underlying22 hi hz0 hz1 hz2 rfl (by decide) (.slice (some ⟨g3, 0, none⟩) n c3) n (p8 f n) (by kernel_rfl) h.2.1 ⟨Z, 0, none⟩ 1 1 [.int .u8 0] (by kernel_rfl) rfl (fun j u hj => by cases j with | zero => (cases hj; exact h.2.2.1.2) | succ j => cases hj) (by intro u hu; simp at hu; subst hu; rfl) (by omega) (by unfold maxLen; omega) (by omega) h.1.size wx.heap.size rfl ?_)
    intro g5 c5 w' ho hgrow hat hlt
    rw [p8_pad] at ho
    exact ST023459 _ _ _ D g3 c3 Z g5 c5 E (by kernel_rfl) (by kernel_rfl) ⟨h.1.grown hgrow h.1.size (fun j hj => (h.2.1.lt j hj).1), ho, h.2.2.2.1.kept hgrow (.inr (fun e => h.2.2.2.2 (by have e2 : some E = some g3 := e; injection e2 with e2; exact e2.symm)))⟩
  have ST0234 : ∀ (L : Array Bool) (F : Act) (wx : World) (D : Nat) (g3 c3 : Nat) (Z : Nat) (g5 c5 : Nat), L = #[true, true, true, true, true, false, true, false, false, false, false, false, false, false, false] → F = ⟨(.slice a n cap :: .slice b m cap2 :: s2 :: s3 :: s4 :: .pointer (some ⟨B, 0, none⟩) :: s6 :: s7 :: s8 :: s9 :: s10 :: s11 :: s12 :: s13 :: s14 :: s15 :: s16 :: s17 :: s18 :: s19 :: s20 :: .slice (some ⟨D, 0, none⟩) 0 0 :: .slice a n cap :: .slice (some ⟨g3, 0, none⟩) n c3 :: .slice (some ⟨Z, 0, none⟩) 1 1 :: .slice (some ⟨g5, 0, none⟩) (n + 1) c5 :: s26 :: .slice b m cap2 :: s28 :: s29 :: s30 :: s31 :: s32 :: s33 :: s34 :: s35 :: []).toArray, []⟩ → (Below wr.heap.size wr wx ∧ Own8 wr.heap.size (padZ f n) (n + 1) (.slice (some ⟨g5, 0, none⟩) (n + 1) c5) wx) → wpAny Tryd.prog .any ((Tryd.f4.body.bind (regIn 5)).getD #[]) Q 9 L F wx := by
    intro L F wx D g3 c3 Z g5 c5 hL hF h
    subst hL hF
    refine wpAny_all (rs := [5, 9]) (by kernel_rfl) (by decide) ?_
    intro i hi
    simp only [List.mem_cons, List.not_mem_nil, or_false] at hi
    rcases hi with rfl | rfl
    · have hb : Below wx.heap.size wx (wx.alloc (.cells #[] 5)) := (Below.refl _ _).alloc (Nat.le_refl _) _
      refine op_val (.slice (some ⟨wx.heap.size, 0, none⟩) 0 0) rfl (by kernel_rfl) (w' := wx.alloc (.cells #[] 5)) (by kernel_rfl) ?_
      have ho : Own8 wr.heap.size g 0 (.slice (some ⟨wx.heap.size, 0, none⟩) 0 0) (wx.alloc (.cells #[] 5)) := by simpa [Own8, p8] using World.ownsRow_made (base := wr.heap.size) (e := 5) (size := 1) wx #[] 0 h.1.size (by decide) (by simp)
      exact ST02345 _ _ _ D g3 c3 Z g5 c5 wx.heap.size (by kernel_rfl) (by kernel_rfl) ⟨h.1.trans (hb.mono h.1.size), own8_below h.2 hb, ho⟩
    · refine op_load 25 (.tmp 5) (.pointer (some ⟨B, 0, none⟩)) (.agg (ar .u8 32 y0)) rfl rfl (by kernel_rfl) (by kernel_rfl) (ld32 ((h.1.block _ hBl).trans hB)) ?_
      exact ST02349 _ _ _ D g3 c3 Z g5 c5 (by kernel_rfl) (by kernel_rfl) h
  have ST0235 : ∀ (L : Array Bool) (F : Act) (wx : World) (D : Nat) (g3 c3 : Nat) (Z : Nat) (E : Nat), L = #[true, true, true, true, false, true, true, false, false, false, false, false, false, false, false] → F = ⟨(.slice a n cap :: .slice b m cap2 :: s2 :: s3 :: s4 :: .pointer (some ⟨B, 0, none⟩) :: s6 :: s7 :: s8 :: s9 :: s10 :: s11 :: s12 :: s13 :: s14 :: s15 :: s16 :: s17 :: s18 :: s19 :: s20 :: .slice (some ⟨D, 0, none⟩) 0 0 :: .slice a n cap :: .slice (some ⟨g3, 0, none⟩) n c3 :: .slice (some ⟨Z, 0, none⟩) 1 1 :: s25 :: .slice (some ⟨E, 0, none⟩) 0 0 :: .slice b m cap2 :: s28 :: s29 :: s30 :: s31 :: s32 :: s33 :: s34 :: s35 :: []).toArray, []⟩ → (Below wr.heap.size wr wx ∧ Own8 wr.heap.size f n (.slice (some ⟨g3, 0, none⟩) n c3) wx ∧ (Z < wx.heap.size ∧ wx.cell? ⟨Z, 0, none⟩ = some (.int .u8 0)) ∧ Own8 wr.heap.size g 0 (.slice (some ⟨E, 0, none⟩) 0 0) wx ∧ g3 ≠ E) → wpAny Tryd.prog .any ((Tryd.f4.body.bind (regIn 5)).getD #[]) Q 9 L F wx := by
    intro L F wx D g3 c3 Z E hL hF h
    subst hL hF
    refine wpAny_all (rs := [4, 9]) (by kernel_rfl) (by decide) ?_
    intro i hi
    simp only [List.mem_cons, List.not_mem_nil, or_false] at hi
    rcases hi with rfl | rfl
    · refine op_wp rfl (by kernel_rfl) (wp_append_lies wx (.tmp 23) (.tmp 24) 22 rfl wr.heap.size 5 i0 (.int .u8 0) 1 1 Tryd.underlying22 hi hz0 hz1 hz2 rfl (by decide) (.slice (some ⟨g3, 0, none⟩) n c3) n (p8 f n) (by kernel_rfl) h.2.1 ⟨Z, 0, none⟩ 1 1 [.int .u8 0] (by kernel_rfl) rfl (fun j u hj => by cases j with | zero => (cases hj; exact h.2.2.1.2) | succ j => cases hj) (by intro u hu; simp at hu; subst hu; rfl) (by omega) (by unfold maxLen; omega) (by omega) h.1.size wx.heap.size rfl ?_)
      intro g5 c5 w' ho hgrow hat hlt
      rw [p8_pad] at ho
      exact ST02345 _ _ _ D g3 c3 Z g5 c5 E (by kernel_rfl) (by kernel_rfl) ⟨h.1.grown hgrow h.1.size (fun j hj => (h.2.1.lt j hj).1), ho, h.2.2.2.1.kept hgrow (.inr (fun e => h.2.2.2.2 (by have e2 : some E = some g3 := e; injection e2 with e2; exact e2.symm)))⟩
    · refine op_load 25 (.tmp 5) (.pointer (some ⟨B, 0, none⟩)) (.agg (ar .u8 32 y0)) rfl rfl (by kernel_rfl) (by kernel_rfl) (ld32 ((h.1.block _ hBl).trans hB)) ?_
      exact ST02359 _ _ _ D g3 c3 Z E (by kernel_rfl) (by kernel_rfl) h
  have ST0239 : ∀ (L : Array Bool) (F : Act) (wx : World) (D : Nat) (g3 c3 : Nat) (Z : Nat), L = #[true, true, true, true, false, false, true, false, false, true, false, false, false, false, false] → F = ⟨(.slice a n cap :: .slice b m cap2 :: s2 :: s3 :: s4 :: .pointer (some ⟨B, 0, none⟩) :: s6 :: s7 :: s8 :: s9 :: s10 :: s11 :: s12 :: s13 :: s14 :: s15 :: s16 :: s17 :: s18 :: s19 :: s20 :: .slice (some ⟨D, 0, none⟩) 0 0 :: .slice a n cap :: .slice (some ⟨g3, 0, none⟩) n c3 :: .slice (some ⟨Z, 0, none⟩) 1 1 :: s25 :: s26 :: .slice b m cap2 :: s28 :: s29 :: .agg (ar .u8 32 y0) :: s31 :: s32 :: s33 :: s34 :: s35 :: []).toArray, []⟩ → (Below wr.heap.size wr wx ∧ Own8 wr.heap.size f n (.slice (some ⟨g3, 0, none⟩) n c3) wx ∧ (Z < wx.heap.size ∧ wx.cell? ⟨Z, 0, none⟩ = some (.int .u8 0))) → wpAny Tryd.prog .any ((Tryd.f4.body.bind (regIn 5)).getD #[]) Q 9 L F wx := by
    intro L F wx D g3 c3 Z hL hF h
    subst hL hF
    refine wpAny_all (rs := [4, 5]) (by kernel_rfl) (by decide) ?_
    intro i hi
    simp only [List.mem_cons, List.not_mem_nil, or_false] at hi
    rcases hi with rfl | rfl
    · refine op_wp rfl (by kernel_rfl) (wp_append_lies wx (.tmp 23) (.tmp 24) 22 rfl wr.heap.size 5 i0 (.int .u8 0) 1 1 Tryd.underlying22 hi hz0 hz1 hz2 rfl (by decide) (.slice (some ⟨g3, 0, none⟩) n c3) n (p8 f n) (by kernel_rfl) h.2.1 ⟨Z, 0, none⟩ 1 1 [.int .u8 0] (by kernel_rfl) rfl (fun j u hj => by cases j with | zero => (cases hj; exact h.2.2.2) | succ j => cases hj) (by intro u hu; simp at hu; subst hu; rfl) (by omega) (by unfold maxLen; omega) (by omega) h.1.size wx.heap.size rfl ?_)
      intro g5 c5 w' ho hgrow hat hlt
      rw [p8_pad] at ho
      exact ST02349 _ _ _ D g3 c3 Z g5 c5 (by kernel_rfl) (by kernel_rfl) ⟨h.1.grown hgrow h.1.size (fun j hj => (h.2.1.lt j hj).1), ho⟩
    · have hb : Below wx.heap.size wx (wx.alloc (.cells #[] 5)) := (Below.refl _ _).alloc (Nat.le_refl _) _
      refine op_val (.slice (some ⟨wx.heap.size, 0, none⟩) 0 0) rfl (by kernel_rfl) (w' := wx.alloc (.cells #[] 5)) (by kernel_rfl) ?_
      have ho : Own8 wr.heap.size g 0 (.slice (some ⟨wx.heap.size, 0, none⟩) 0 0) (wx.alloc (.cells #[] 5)) := by simpa [Own8, p8] using World.ownsRow_made (base := wr.heap.size) (e := 5) (size := 1) wx #[] 0 h.1.size (by decide) (by simp)
      exact ST02359 _ _ _ D g3 c3 Z wx.heap.size (by kernel_rfl) (by kernel_rfl) ⟨h.1.trans (hb.mono h.1.size), own8_below h.2.1 hb, ⟨Nat.lt_of_lt_of_le h.2.2.1 hb.size, (hb.cell (p := ⟨Z, 0, none⟩) h.2.2.1).trans h.2.2.2⟩, ho, by have := (h.2.1.lt g3 rfl).2; omega⟩
  have ST0259 : ∀ (L : Array Bool) (F : Act) (wx : World) (D : Nat) (g3 c3 : Nat) (E : Nat), L = #[true, true, true, false, false, true, true, false, false, true, false, false, false, false, false] → F = ⟨(.slice a n cap :: .slice b m cap2 :: s2 :: s3 :: s4 :: .pointer (some ⟨B, 0, none⟩) :: s6 :: s7 :: s8 :: s9 :: s10 :: s11 :: s12 :: s13 :: s14 :: s15 :: s16 :: s17 :: s18 :: s19 :: s20 :: .slice (some ⟨D, 0, none⟩) 0 0 :: .slice a n cap :: .slice (some ⟨g3, 0, none⟩) n c3 :: s24 :: s25 :: .slice (some ⟨E, 0, none⟩) 0 0 :: .slice b m cap2 :: s28 :: s29 :: .agg (ar .u8 32 y0) :: s31 :: s32 :: s33 :: s34 :: s35 :: []).toArray, []⟩ → (Below wr.heap.size wr wx ∧ Own8 wr.heap.size f n (.slice (some ⟨g3, 0, none⟩) n c3) wx ∧ Own8 wr.heap.size g 0 (.slice (some ⟨E, 0, none⟩) 0 0) wx ∧ g3 ≠ E) → wpAny Tryd.prog .any ((Tryd.f4.body.bind (regIn 5)).getD #[]) Q 9 L F wx := by
    intro L F wx D g3 c3 E hL hF h
    subst hL hF
    refine wpAny_all (rs := [3]) (by kernel_rfl) (by decide) ?_
    intro i hi
    simp only [List.mem_cons, List.not_mem_nil, or_false] at hi
    subst hi
    have hb : Below wx.heap.size wx (wx.alloc (.cells #[.int .u8 0] 5)) := (Below.refl _ _).alloc (Nat.le_refl _) _
    refine op_val (.slice (some ⟨wx.heap.size, 0, none⟩) 1 1) rfl (by kernel_rfl) (w' := wx.alloc (.cells #[.int .u8 0] 5)) (by kernel_rfl) ?_
    exact ST02359 _ _ _ D g3 c3 wx.heap.size E (by kernel_rfl) (by kernel_rfl) ⟨h.1.trans (hb.mono h.1.size), own8_below h.2.1 hb, ⟨by simp, cell_of_row _ _ 0 _ _ _ (heap_alloc_new _ _)⟩, own8_below h.2.2.1 hb, h.2.2.2⟩
  have ST0359 : ∀ (L : Array Bool) (F : Act) (wx : World) (D : Nat) (Z : Nat) (E : Nat), L = #[true, true, false, true, false, true, true, false, false, true, false, false, false, false, false] → F = ⟨(.slice a n cap :: .slice b m cap2 :: s2 :: s3 :: s4 :: .pointer (some ⟨B, 0, none⟩) :: s6 :: s7 :: s8 :: s9 :: s10 :: s11 :: s12 :: s13 :: s14 :: s15 :: s16 :: s17 :: s18 :: s19 :: s20 :: .slice (some ⟨D, 0, none⟩) 0 0 :: .slice a n cap :: s23 :: .slice (some ⟨Z, 0, none⟩) 1 1 :: s25 :: .slice (some ⟨E, 0, none⟩) 0 0 :: .slice b m cap2 :: s28 :: s29 :: .agg (ar .u8 32 y0) :: s31 :: s32 :: s33 :: s34 :: s35 :: []).toArray, []⟩ → (Below wr.heap.size wr wx ∧ Own8 wr.heap.size f 0 (.slice (some ⟨D, 0, none⟩) 0 0) wx ∧ (Z < wx.heap.size ∧ wx.cell? ⟨Z, 0, none⟩ = some (.int .u8 0)) ∧ Own8 wr.heap.size g 0 (.slice (some ⟨E, 0, none⟩) 0 0) wx ∧ D ≠ E) → wpAny Tryd.prog .any ((Tryd.f4.body.bind (regIn 5)).getD #[]) Q 9 L F wx := by
    intro L F wx D Z E hL hF h
    subst hL hF
    refine wpAny_all (rs := [2]) (by kernel_rfl) (by decide) ?_
    intro i hi
    simp only [List.mem_cons, List.not_mem_nil, or_false] at hi
    subst hi
    obtain ⟨g3, c3, w', hr, ho, hb, hgg⟩ := copiedO h.2.1 (hu.below (hb0.trans (h.1.mono hb0.size))) (by omega) h.1.size
    refine op_val (.slice (some ⟨g3, 0, none⟩) n c3) rfl (by kernel_rfl) (run_app (.tmp 21) (.tmp 22) (.slice (some ⟨D, 0, none⟩) 0 0) (.slice a n cap) _ rfl rfl (by kernel_rfl) (by kernel_rfl) hr) ?_
    exact ST02359 _ _ _ D g3 c3 Z E (by kernel_rfl) (by kernel_rfl) ⟨h.1.trans (hb.mono h.1.size), ho, ⟨Nat.lt_of_lt_of_le h.2.2.1.1 hb.size, (hb.cell (p := ⟨Z, 0, none⟩) h.2.2.1.1).trans h.2.2.1.2⟩, own8_below h.2.2.2.1 hb, by have h1 := h.2.2.2.2; have h2 := (h.2.2.2.1.lt E rfl).2; omega⟩
  have ST023 : ∀ (L : Array Bool) (F : Act) (wx : World) (D : Nat) (g3 c3 : Nat) (Z : Nat), L = #[true, true, true, true, false, false, true, false, false, false, false, false, false, false, false] → F = ⟨(.slice a n cap :: .slice b m cap2 :: s2 :: s3 :: s4 :: .pointer (some ⟨B, 0, none⟩) :: s6 :: s7 :: s8 :: s9 :: s10 :: s11 :: s12 :: s13 :: s14 :: s15 :: s16 :: s17 :: s18 :: s19 :: s20 :: .slice (some ⟨D, 0, none⟩) 0 0 :: .slice a n cap :: .slice (some ⟨g3, 0, none⟩) n c3 :: .slice (some ⟨Z, 0, none⟩) 1 1 :: s25 :: s26 :: .slice b m cap2 :: s28 :: s29 :: s30 :: s31 :: s32 :: s33 :: s34 :: s35 :: []).toArray, []⟩ → (Below wr.heap.size wr wx ∧ Own8 wr.heap.size f n (.slice (some ⟨g3, 0, none⟩) n c3) wx ∧ (Z < wx.heap.size ∧ wx.cell? ⟨Z, 0, none⟩ = some (.int .u8 0))) → wpAny Tryd.prog .any ((Tryd.f4.body.bind (regIn 5)).getD #[]) Q 10 L F wx := by
    intro L F wx D g3 c3 Z hL hF h
    subst hL hF
    refine wpAny_all (rs := [4, 5, 9]) (by kernel_rfl) (by decide) ?_
    intro i hi
    simp only [List.mem_cons, List.not_mem_nil, or_false] at hi
    rcases hi with rfl | rfl | rfl
    · refine op_wp rfl (by kernel_rfl) (wp_append_lies wx (.tmp 23) (.tmp 24) 22 rfl wr.heap.size 5 i0 (.int .u8 0) 1 1 Tryd.underlying22 hi hz0 hz1 hz2 rfl (by decide) (.slice (some ⟨g3, 0, none⟩) n c3) n (p8 f n) (by kernel_rfl) h.2.1 ⟨Z, 0, none⟩ 1 1 [.int .u8 0] (by kernel_rfl) rfl (fun j u hj => by cases j with | zero => (cases hj; exact h.2.2.2) | succ j => cases hj) (by intro u hu; simp at hu; subst hu; rfl) (by omega) (by unfold maxLen; omega) (by omega) h.1.size wx.heap.size rfl ?_)
      intro g5 c5 w' ho hgrow hat hlt
      rw [p8_pad] at ho
      exact ST0234 _ _ _ D g3 c3 Z g5 c5 (by kernel_rfl) (by kernel_rfl) ⟨h.1.grown hgrow h.1.size (fun j hj => (h.2.1.lt j hj).1), ho⟩
    · have hb : Below wx.heap.size wx (wx.alloc (.cells #[] 5)) := (Below.refl _ _).alloc (Nat.le_refl _) _
      refine op_val (.slice (some ⟨wx.heap.size, 0, none⟩) 0 0) rfl (by kernel_rfl) (w' := wx.alloc (.cells #[] 5)) (by kernel_rfl) ?_
      have ho : Own8 wr.heap.size g 0 (.slice (some ⟨wx.heap.size, 0, none⟩) 0 0) (wx.alloc (.cells #[] 5)) := by simpa [Own8, p8] using World.ownsRow_made (base := wr.heap.size) (e := 5) (size := 1) wx #[] 0 h.1.size (by decide) (by simp)
      exact ST0235 _ _ _ D g3 c3 Z wx.heap.size (by kernel_rfl) (by kernel_rfl) ⟨h.1.trans (hb.mono h.1.size), own8_below h.2.1 hb, ⟨Nat.lt_of_lt_of_le h.2.2.1 hb.size, (hb.cell (p := ⟨Z, 0, none⟩) h.2.2.1).trans h.2.2.2⟩, ho, by have := (h.2.1.lt g3 rfl).2; omega⟩
    · refine op_load 25 (.tmp 5) (.pointer (some ⟨B, 0, none⟩)) (.agg (ar .u8 32 y0)) rfl rfl (by kernel_rfl) (by kernel_rfl) (ld32 ((h.1.block _ hBl).trans hB)) ?_
      exact ST0239 _ _ _ D g3 c3 Z (by kernel_rfl) (by kernel_rfl) h
  have ST025 : ∀ (L : Array Bool) (F : Act) (wx : World) (D : Nat) (g3 c3 : Nat) (E : Nat), L = #[true, true, true, false, false, true, true, false, false, false, false, false, false, false, false] → F = ⟨(.slice a n cap :: .slice b m cap2 :: s2 :: s3 :: s4 :: .pointer (some ⟨B, 0, none⟩) :: s6 :: s7 :: s8 :: s9 :: s10 :: s11 :: s12 :: s13 :: s14 :: s15 :: s16 :: s17 :: s18 :: s19 :: s20 :: .slice (some ⟨D, 0, none⟩) 0 0 :: .slice a n cap :: .slice (some ⟨g3, 0, none⟩) n c3 :: s24 :: s25 :: .slice (some ⟨E, 0, none⟩) 0 0 :: .slice b m cap2 :: s28 :: s29 :: s30 :: s31 :: s32 :: s33 :: s34 :: s35 :: []).toArray, []⟩ → (Below wr.heap.size wr wx ∧ Own8 wr.heap.size f n (.slice (some ⟨g3, 0, none⟩) n c3) wx ∧ Own8 wr.heap.size g 0 (.slice (some ⟨E, 0, none⟩) 0 0) wx ∧ g3 ≠ E) → wpAny Tryd.prog .any ((Tryd.f4.body.bind (regIn 5)).getD #[]) Q 10 L F wx := by
    intro L F wx D g3 c3 E hL hF h
    subst hL hF
    refine wpAny_all (rs := [3, 9]) (by kernel_rfl) (by decide) ?_
    intro i hi
    simp only [List.mem_cons, List.not_mem_nil, or_false] at hi
    rcases hi with rfl | rfl
    · have hb : Below wx.heap.size wx (wx.alloc (.cells #[.int .u8 0] 5)) := (Below.refl _ _).alloc (Nat.le_refl _) _
      refine op_val (.slice (some ⟨wx.heap.size, 0, none⟩) 1 1) rfl (by kernel_rfl) (w' := wx.alloc (.cells #[.int .u8 0] 5)) (by kernel_rfl) ?_
      exact ST0235 _ _ _ D g3 c3 wx.heap.size E (by kernel_rfl) (by kernel_rfl) ⟨h.1.trans (hb.mono h.1.size), own8_below h.2.1 hb, ⟨by simp, cell_of_row _ _ 0 _ _ _ (heap_alloc_new _ _)⟩, own8_below h.2.2.1 hb, h.2.2.2⟩
    · refine op_load 25 (.tmp 5) (.pointer (some ⟨B, 0, none⟩)) (.agg (ar .u8 32 y0)) rfl rfl (by kernel_rfl) (by kernel_rfl) (ld32 ((h.1.block _ hBl).trans hB)) ?_
      exact ST0259 _ _ _ D g3 c3 E (by kernel_rfl) (by kernel_rfl) h
  have ST029 : ∀ (L : Array Bool) (F : Act) (wx : World) (D : Nat) (g3 c3 : Nat), L = #[true, true, true, false, false, false, true, false, false, true, false, false, false, false, false] → F = ⟨(.slice a n cap :: .slice b m cap2 :: s2 :: s3 :: s4 :: .pointer (some ⟨B, 0, none⟩) :: s6 :: s7 :: s8 :: s9 :: s10 :: s11 :: s12 :: s13 :: s14 :: s15 :: s16 :: s17 :: s18 :: s19 :: s20 :: .slice (some ⟨D, 0, none⟩) 0 0 :: .slice a n cap :: .slice (some ⟨g3, 0, none⟩) n c3 :: s24 :: s25 :: s26 :: .slice b m cap2 :: s28 :: s29 :: .agg (ar .u8 32 y0) :: s31 :: s32 :: s33 :: s34 :: s35 :: []).toArray, []⟩ → (Below wr.heap.size wr wx ∧ Own8 wr.heap.size f n (.slice (some ⟨g3, 0, none⟩) n c3) wx) → wpAny Tryd.prog .any ((Tryd.f4.body.bind (regIn 5)).getD #[]) Q 10 L F wx := by
    intro L F wx D g3 c3 hL hF h
    subst hL hF
    refine wpAny_all (rs := [3, 5]) (by kernel_rfl) (by decide) ?_
    intro i hi
    simp only [List.mem_cons, List.not_mem_nil, or_false] at hi
    rcases hi with rfl | rfl
    · have hb : Below wx.heap.size wx (wx.alloc (.cells #[.int .u8 0] 5)) := (Below.refl _ _).alloc (Nat.le_refl _) _
      refine op_val (.slice (some ⟨wx.heap.size, 0, none⟩) 1 1) rfl (by kernel_rfl) (w' := wx.alloc (.cells #[.int .u8 0] 5)) (by kernel_rfl) ?_
      exact ST0239 _ _ _ D g3 c3 wx.heap.size (by kernel_rfl) (by kernel_rfl) ⟨h.1.trans (hb.mono h.1.size), own8_below h.2 hb, ⟨by simp, cell_of_row _ _ 0 _ _ _ (heap_alloc_new _ _)⟩⟩
    · have hb : Below wx.heap.size wx (wx.alloc (.cells #[] 5)) := (Below.refl _ _).alloc (Nat.le_refl _) _
      refine op_val (.slice (some ⟨wx.heap.size, 0, none⟩) 0 0) rfl (by kernel_rfl) (w' := wx.alloc (.cells #[] 5)) (by kernel_rfl) ?_
      have ho : Own8 wr.heap.size g 0 (.slice (some ⟨wx.heap.size, 0, none⟩) 0 0) (wx.alloc (.cells #[] 5)) := by simpa [Own8, p8] using World.ownsRow_made (base := wr.heap.size) (e := 5) (size := 1) wx #[] 0 h.1.size (by decide) (by simp)
      exact ST0259 _ _ _ D g3 c3 wx.heap.size (by kernel_rfl) (by kernel_rfl) ⟨h.1.trans (hb.mono h.1.size), own8_below h.2 hb, ho, by have := (h.2.lt g3 rfl).2; omega⟩
  have ST035 : ∀ (L : Array Bool) (F : Act) (wx : World) (D : Nat) (Z : Nat) (E : Nat), L = #[true, true, false, true, false, true, true, false, false, false, false, false, false, false, false] → F = ⟨(.slice a n cap :: .slice b m cap2 :: s2 :: s3 :: s4 :: .pointer (some ⟨B, 0, none⟩) :: s6 :: s7 :: s8 :: s9 :: s10 :: s11 :: s12 :: s13 :: s14 :: s15 :: s16 :: s17 :: s18 :: s19 :: s20 :: .slice (some ⟨D, 0, none⟩) 0 0 :: .slice a n cap :: s23 :: .slice (some ⟨Z, 0, none⟩) 1 1 :: s25 :: .slice (some ⟨E, 0, none⟩) 0 0 :: .slice b m cap2 :: s28 :: s29 :: s30 :: s31 :: s32 :: s33 :: s34 :: s35 :: []).toArray, []⟩ → (Below wr.heap.size wr wx ∧ Own8 wr.heap.size f 0 (.slice (some ⟨D, 0, none⟩) 0 0) wx ∧ (Z < wx.heap.size ∧ wx.cell? ⟨Z, 0, none⟩ = some (.int .u8 0)) ∧ Own8 wr.heap.size g 0 (.slice (some ⟨E, 0, none⟩) 0 0) wx ∧ D ≠ E) → wpAny Tryd.prog .any ((Tryd.f4.body.bind (regIn 5)).getD #[]) Q 10 L F wx := by
    intro L F wx D Z E hL hF h
    subst hL hF
    refine wpAny_all (rs := [2, 9]) (by kernel_rfl) (by decide) ?_
    intro i hi
    simp only [List.mem_cons, List.not_mem_nil, or_false] at hi
    rcases hi with rfl | rfl
    · obtain ⟨g3, c3, w', hr, ho, hb, hgg⟩ := copiedO h.2.1 (hu.below (hb0.trans (h.1.mono hb0.size))) (by omega) h.1.size
      refine op_val (.slice (some ⟨g3, 0, none⟩) n c3) rfl (by kernel_rfl) (run_app (.tmp 21) (.tmp 22) (.slice (some ⟨D, 0, none⟩) 0 0) (.slice a n cap) _ rfl rfl (by kernel_rfl) (by kernel_rfl) hr) ?_
      exact ST0235 _ _ _ D g3 c3 Z E (by kernel_rfl) (by kernel_rfl) ⟨h.1.trans (hb.mono h.1.size), ho, ⟨Nat.lt_of_lt_of_le h.2.2.1.1 hb.size, (hb.cell (p := ⟨Z, 0, none⟩) h.2.2.1.1).trans h.2.2.1.2⟩, own8_below h.2.2.2.1 hb, by have h1 := h.2.2.2.2; have h2 := (h.2.2.2.1.lt E rfl).2; omega⟩
    · refine op_load 25 (.tmp 5) (.pointer (some ⟨B, 0, none⟩)) (.agg (ar .u8 32 y0)) rfl rfl (by kernel_rfl) (by kernel_rfl) (ld32 ((h.1.block _ hBl).trans hB)) ?_
      exact ST0359 _ _ _ D Z E (by kernel_rfl) (by kernel_rfl) h
  have ST039 : ∀ (L : Array Bool) (F : Act) (wx : World) (D : Nat) (Z : Nat), L = #[true, true, false, true, false, false, true, false, false, true, false, false, false, false, false] → F = ⟨(.slice a n cap :: .slice b m cap2 :: s2 :: s3 :: s4 :: .pointer (some ⟨B, 0, none⟩) :: s6 :: s7 :: s8 :: s9 :: s10 :: s11 :: s12 :: s13 :: s14 :: s15 :: s16 :: s17 :: s18 :: s19 :: s20 :: .slice (some ⟨D, 0, none⟩) 0 0 :: .slice a n cap :: s23 :: .slice (some ⟨Z, 0, none⟩) 1 1 :: s25 :: s26 :: .slice b m cap2 :: s28 :: s29 :: .agg (ar .u8 32 y0) :: s31 :: s32 :: s33 :: s34 :: s35 :: []).toArray, []⟩ → (Below wr.heap.size wr wx ∧ Own8 wr.heap.size f 0 (.slice (some ⟨D, 0, none⟩) 0 0) wx ∧ (Z < wx.heap.size ∧ wx.cell? ⟨Z, 0, none⟩ = some (.int .u8 0))) → wpAny Tryd.prog .any ((Tryd.f4.body.bind (regIn 5)).getD #[]) Q 10 L F wx := by
    intro L F wx D Z hL hF h
    subst hL hF
    refine wpAny_all (rs := [2, 5]) (by kernel_rfl) (by decide) ?_
    intro i hi
    simp only [List.mem_cons, List.not_mem_nil, or_false] at hi
    rcases hi with rfl | rfl
    · obtain ⟨g3, c3, w', hr, ho, hb, hgg⟩ := copiedO h.2.1 (hu.below (hb0.trans (h.1.mono hb0.size))) (by omega) h.1.size
      refine op_val (.slice (some ⟨g3, 0, none⟩) n c3) rfl (by kernel_rfl) (run_app (.tmp 21) (.tmp 22) (.slice (some ⟨D, 0, none⟩) 0 0) (.slice a n cap) _ rfl rfl (by kernel_rfl) (by kernel_rfl) hr) ?_
      exact ST0239 _ _ _ D g3 c3 Z (by kernel_rfl) (by kernel_rfl) ⟨h.1.trans (hb.mono h.1.size), ho, ⟨Nat.lt_of_lt_of_le h.2.2.1 hb.size, (hb.cell (p := ⟨Z, 0, none⟩) h.2.2.1).trans h.2.2.2⟩⟩
    · have hb : Below wx.heap.size wx (wx.alloc (.cells #[] 5)) := (Below.refl _ _).alloc (Nat.le_refl _) _
      refine op_val (.slice (some ⟨wx.heap.size, 0, none⟩) 0 0) rfl (by kernel_rfl) (w' := wx.alloc (.cells #[] 5)) (by kernel_rfl) ?_
      have ho : Own8 wr.heap.size g 0 (.slice (some ⟨wx.heap.size, 0, none⟩) 0 0) (wx.alloc (.cells #[] 5)) := by simpa [Own8, p8] using World.ownsRow_made (base := wr.heap.size) (e := 5) (size := 1) wx #[] 0 h.1.size (by decide) (by simp)
      exact ST0359 _ _ _ D Z wx.heap.size (by kernel_rfl) (by kernel_rfl) ⟨h.1.trans (hb.mono h.1.size), own8_below h.2.1 hb, ⟨Nat.lt_of_lt_of_le h.2.2.1 hb.size, (hb.cell (p := ⟨Z, 0, none⟩) h.2.2.1).trans h.2.2.2⟩, ho, by have := (h.2.1.lt D rfl).2; omega⟩
  have ST059 : ∀ (L : Array Bool) (F : Act) (wx : World) (D : Nat) (E : Nat), L = #[true, true, false, false, false, true, true, false, false, true, false, false, false, false, false] → F = ⟨(.slice a n cap :: .slice b m cap2 :: s2 :: s3 :: s4 :: .pointer (some ⟨B, 0, none⟩) :: s6 :: s7 :: s8 :: s9 :: s10 :: s11 :: s12 :: s13 :: s14 :: s15 :: s16 :: s17 :: s18 :: s19 :: s20 :: .slice (some ⟨D, 0, none⟩) 0 0 :: .slice a n cap :: s23 :: s24 :: s25 :: .slice (some ⟨E, 0, none⟩) 0 0 :: .slice b m cap2 :: s28 :: s29 :: .agg (ar .u8 32 y0) :: s31 :: s32 :: s33 :: s34 :: s35 :: []).toArray, []⟩ → (Below wr.heap.size wr wx ∧ Own8 wr.heap.size f 0 (.slice (some ⟨D, 0, none⟩) 0 0) wx ∧ Own8 wr.heap.size g 0 (.slice (some ⟨E, 0, none⟩) 0 0) wx ∧ D ≠ E) → wpAny Tryd.prog .any ((Tryd.f4.body.bind (regIn 5)).getD #[]) Q 10 L F wx := by
    intro L F wx D E hL hF h
    subst hL hF
    refine wpAny_all (rs := [2, 3]) (by kernel_rfl) (by decide) ?_
    intro i hi
    simp only [List.mem_cons, List.not_mem_nil, or_false] at hi
    rcases hi with rfl | rfl
    · obtain ⟨g3, c3, w', hr, ho, hb, hgg⟩ := copiedO h.2.1 (hu.below (hb0.trans (h.1.mono hb0.size))) (by omega) h.1.size
      refine op_val (.slice (some ⟨g3, 0, none⟩) n c3) rfl (by kernel_rfl) (run_app (.tmp 21) (.tmp 22) (.slice (some ⟨D, 0, none⟩) 0 0) (.slice a n cap) _ rfl rfl (by kernel_rfl) (by kernel_rfl) hr) ?_
      exact ST0259 _ _ _ D g3 c3 E (by kernel_rfl) (by kernel_rfl) ⟨h.1.trans (hb.mono h.1.size), ho, own8_below h.2.2.1 hb, by have h1 := h.2.2.2; have h2 := (h.2.2.1.lt E rfl).2; omega⟩
    · have hb : Below wx.heap.size wx (wx.alloc (.cells #[.int .u8 0] 5)) := (Below.refl _ _).alloc (Nat.le_refl _) _
      refine op_val (.slice (some ⟨wx.heap.size, 0, none⟩) 1 1) rfl (by kernel_rfl) (w' := wx.alloc (.cells #[.int .u8 0] 5)) (by kernel_rfl) ?_
      exact ST0359 _ _ _ D wx.heap.size E (by kernel_rfl) (by kernel_rfl) ⟨h.1.trans (hb.mono h.1.size), own8_below h.2.1 hb, ⟨by simp, cell_of_row _ _ 0 _ _ _ (heap_alloc_new _ _)⟩, own8_below h.2.2.1 hb, h.2.2.2⟩
  have ST359 : ∀ (L : Array Bool) (F : Act) (wx : World) (Z : Nat) (E : Nat), L = #[false, true, false, true, false, true, true, false, false, true, false, false, false, false, false] → F = ⟨(.slice a n cap :: .slice b m cap2 :: s2 :: s3 :: s4 :: .pointer (some ⟨B, 0, none⟩) :: s6 :: s7 :: s8 :: s9 :: s10 :: s11 :: s12 :: s13 :: s14 :: s15 :: s16 :: s17 :: s18 :: s19 :: s20 :: s21 :: .slice a n cap :: s23 :: .slice (some ⟨Z, 0, none⟩) 1 1 :: s25 :: .slice (some ⟨E, 0, none⟩) 0 0 :: .slice b m cap2 :: s28 :: s29 :: .agg (ar .u8 32 y0) :: s31 :: s32 :: s33 :: s34 :: s35 :: []).toArray, []⟩ → (Below wr.heap.size wr wx ∧ (Z < wx.heap.size ∧ wx.cell? ⟨Z, 0, none⟩ = some (.int .u8 0)) ∧ Own8 wr.heap.size g 0 (.slice (some ⟨E, 0, none⟩) 0 0) wx) → wpAny Tryd.prog .any ((Tryd.f4.body.bind (regIn 5)).getD #[]) Q 10 L F wx := by
    intro L F wx Z E hL hF h
    subst hL hF
    refine wpAny_all (rs := [0]) (by kernel_rfl) (by decide) ?_
    intro i hi
    simp only [List.mem_cons, List.not_mem_nil, or_false] at hi
    subst hi
    have hb : Below wx.heap.size wx (wx.alloc (.cells #[] 5)) := (Below.refl _ _).alloc (Nat.le_refl _) _
    refine op_val (.slice (some ⟨wx.heap.size, 0, none⟩) 0 0) rfl (by kernel_rfl) (w' := wx.alloc (.cells #[] 5)) (by kernel_rfl) ?_
    have ho : Own8 wr.heap.size f 0 (.slice (some ⟨wx.heap.size, 0, none⟩) 0 0) (wx.alloc (.cells #[] 5)) := by simpa [Own8, p8] using World.ownsRow_made (base := wr.heap.size) (e := 5) (size := 1) wx #[] 0 h.1.size (by decide) (by simp)
    exact ST0359 _ _ _ wx.heap.size Z E (by kernel_rfl) (by kernel_rfl) ⟨h.1.trans (hb.mono h.1.size), ho, ⟨Nat.lt_of_lt_of_le h.2.1.1 hb.size, (hb.cell (p := ⟨Z, 0, none⟩) h.2.1.1).trans h.2.1.2⟩, own8_below h.2.2 hb, by have := (h.2.2.lt E rfl).2; omega⟩
  have ST02 : ∀ (L : Array Bool) (F : Act) (wx : World) (D : Nat) (g3 c3 : Nat), L = #[true, true, true, false, false, false, true, false, false, false, false, false, false, false, false] → F = ⟨(.slice a n cap :: .slice b m cap2 :: s2 :: s3 :: s4 :: .pointer (some ⟨B, 0, none⟩) :: s6 :: s7 :: s8 :: s9 :: s10 :: s11 :: s12 :: s13 :: s14 :: s15 :: s16 :: s17 :: s18 :: s19 :: s20 :: .slice (some ⟨D, 0, none⟩) 0 0 :: .slice a n cap :: .slice (some ⟨g3, 0, none⟩) n c3 :: s24 :: s25 :: s26 :: .slice b m cap2 :: s28 :: s29 :: s30 :: s31 :: s32 :: s33 :: s34 :: s35 :: []).toArray, []⟩ → (Below wr.heap.size wr wx ∧ Own8 wr.heap.size f n (.slice (some ⟨g3, 0, none⟩) n c3) wx) → wpAny Tryd.prog .any ((Tryd.f4.body.bind (regIn 5)).getD #[]) Q 11 L F wx := by
    intro L F wx D g3 c3 hL hF h
    subst hL hF
    refine wpAny_all (rs := [3, 5, 9]) (by kernel_rfl) (by decide) ?_
    intro i hi
    simp only [List.mem_cons, List.not_mem_nil, or_false] at hi
    rcases hi with rfl | rfl | rfl
    · have hb : Below wx.heap.size wx (wx.alloc (.cells #[.int .u8 0] 5)) := (Below.refl _ _).alloc (Nat.le_refl _) _
      refine op_val (.slice (some ⟨wx.heap.size, 0, none⟩) 1 1) rfl (by kernel_rfl) (w' := wx.alloc (.cells #[.int .u8 0] 5)) (by kernel_rfl) ?_
      exact ST023 _ _ _ D g3 c3 wx.heap.size (by kernel_rfl) (by kernel_rfl) ⟨h.1.trans (hb.mono h.1.size), own8_below h.2 hb, ⟨by simp, cell_of_row _ _ 0 _ _ _ (heap_alloc_new _ _)⟩⟩
    · have hb : Below wx.heap.size wx (wx.alloc (.cells #[] 5)) := (Below.refl _ _).alloc (Nat.le_refl _) _
      refine op_val (.slice (some ⟨wx.heap.size, 0, none⟩) 0 0) rfl (by kernel_rfl) (w' := wx.alloc (.cells #[] 5)) (by kernel_rfl) ?_
      have ho : Own8 wr.heap.size g 0 (.slice (some ⟨wx.heap.size, 0, none⟩) 0 0) (wx.alloc (.cells #[] 5)) := by simpa [Own8, p8] using World.ownsRow_made (base := wr.heap.size) (e := 5) (size := 1) wx #[] 0 h.1.size (by decide) (by simp)
      exact ST025 _ _ _ D g3 c3 wx.heap.size (by kernel_rfl) (by kernel_rfl) ⟨h.1.trans (hb.mono h.1.size), own8_below h.2 hb, ho, by have := (h.2.lt g3 rfl).2; omega⟩
    · refine op_load 25 (.tmp 5) (.pointer (some ⟨B, 0, none⟩)) (.agg (ar .u8 32 y0)) rfl rfl (by kernel_rfl) (by kernel_rfl) (ld32 ((h.1.block _ hBl).trans hB)) ?_
      exact ST029 _ _ _ D g3 c3 (by kernel_rfl) (by kernel_rfl) h
  have ST03 : ∀ (L : Array Bool) (F : Act) (wx : World) (D : Nat) (Z : Nat), L = #[true, true, false, true, false, false, true, false, false, false, false, false, false, false, false] → F = ⟨(.slice a n cap :: .slice b m cap2 :: s2 :: s3 :: s4 :: .pointer (some ⟨B, 0, none⟩) :: s6 :: s7 :: s8 :: s9 :: s10 :: s11 :: s12 :: s13 :: s14 :: s15 :: s16 :: s17 :: s18 :: s19 :: s20 :: .slice (some ⟨D, 0, none⟩) 0 0 :: .slice a n cap :: s23 :: .slice (some ⟨Z, 0, none⟩) 1 1 :: s25 :: s26 :: .slice b m cap2 :: s28 :: s29 :: s30 :: s31 :: s32 :: s33 :: s34 :: s35 :: []).toArray, []⟩ → (Below wr.heap.size wr wx ∧ Own8 wr.heap.size f 0 (.slice (some ⟨D, 0, none⟩) 0 0) wx ∧ (Z < wx.heap.size ∧ wx.cell? ⟨Z, 0, none⟩ = some (.int .u8 0))) → wpAny Tryd.prog .any ((Tryd.f4.body.bind (regIn 5)).getD #[]) Q 11 L F wx := by
    intro L F wx D Z hL hF h
    subst hL hF
    refine wpAny_all (rs := [2, 5, 9]) (by kernel_rfl) (by decide) ?_
    intro i hi
    simp only [List.mem_cons, List.not_mem_nil, or_false] at hi
    rcases hi with rfl | rfl | rfl
    · obtain ⟨g3, c3, w', hr, ho, hb, hgg⟩ := copiedO h.2.1 (hu.below (hb0.trans (h.1.mono hb0.size))) (by omega) h.1.size
      refine op_val (.slice (some ⟨g3, 0, none⟩) n c3) rfl (by kernel_rfl) (run_app (.tmp 21) (.tmp 22) (.slice (some ⟨D, 0, none⟩) 0 0) (.slice a n cap) _ rfl rfl (by kernel_rfl) (by kernel_rfl) hr) ?_
      exact ST023 _ _ _ D g3 c3 Z (by kernel_rfl) (by kernel_rfl) ⟨h.1.trans (hb.mono h.1.size), ho, ⟨Nat.lt_of_lt_of_le h.2.2.1 hb.size, (hb.cell (p := ⟨Z, 0, none⟩) h.2.2.1).trans h.2.2.2⟩⟩
    · have hb : Below wx.heap.size wx (wx.alloc (.cells #[] 5)) := (Below.refl _ _).alloc (Nat.le_refl _) _
      refine op_val (.slice (some ⟨wx.heap.size, 0, none⟩) 0 0) rfl (by kernel_rfl) (w' := wx.alloc (.cells #[] 5)) (by kernel_rfl) ?_
      have ho : Own8 wr.heap.size g 0 (.slice (some ⟨wx.heap.size, 0, none⟩) 0 0) (wx.alloc (.cells #[] 5)) := by simpa [Own8, p8] using World.ownsRow_made (base := wr.heap.size) (e := 5) (size := 1) wx #[] 0 h.1.size (by decide) (by simp)
      exact ST035 _ _ _ D Z wx.heap.size (by kernel_rfl) (by kernel_rfl) ⟨h.1.trans (hb.mono h.1.size), own8_below h.2.1 hb, ⟨Nat.lt_of_lt_of_le h.2.2.1 hb.size, (hb.cell (p := ⟨Z, 0, none⟩) h.2.2.1).trans h.2.2.2⟩, ho, by have := (h.2.1.lt D rfl).2; omega⟩
    · refine op_load 25 (.tmp 5) (.pointer (some ⟨B, 0, none⟩)) (.agg (ar .u8 32 y0)) rfl rfl (by kernel_rfl) (by kernel_rfl) (ld32 ((h.1.block _ hBl).trans hB)) ?_
      exact ST039 _ _ _ D Z (by kernel_rfl) (by kernel_rfl) h
  have ST05 : ∀ (L : Array Bool) (F : Act) (wx : World) (D : Nat) (E : Nat), L = #[true, true, false, false, false, true, true, false, false, false, false, false, false, false, false] → F = ⟨(.slice a n cap :: .slice b m cap2 :: s2 :: s3 :: s4 :: .pointer (some ⟨B, 0, none⟩) :: s6 :: s7 :: s8 :: s9 :: s10 :: s11 :: s12 :: s13 :: s14 :: s15 :: s16 :: s17 :: s18 :: s19 :: s20 :: .slice (some ⟨D, 0, none⟩) 0 0 :: .slice a n cap :: s23 :: s24 :: s25 :: .slice (some ⟨E, 0, none⟩) 0 0 :: .slice b m cap2 :: s28 :: s29 :: s30 :: s31 :: s32 :: s33 :: s34 :: s35 :: []).toArray, []⟩ → (Below wr.heap.size wr wx ∧ Own8 wr.heap.size f 0 (.slice (some ⟨D, 0, none⟩) 0 0) wx ∧ Own8 wr.heap.size g 0 (.slice (some ⟨E, 0, none⟩) 0 0) wx ∧ D ≠ E) → wpAny Tryd.prog .any ((Tryd.f4.body.bind (regIn 5)).getD #[]) Q 11 L F wx := by
    intro L F wx D E hL hF h
    subst hL hF
    refine wpAny_all (rs := [2, 3, 9]) (by kernel_rfl) (by decide) ?_
    intro i hi
    simp only [List.mem_cons, List.not_mem_nil, or_false] at hi
    rcases hi with rfl | rfl | rfl
    · obtain ⟨g3, c3, w', hr, ho, hb, hgg⟩ := copiedO h.2.1 (hu.below (hb0.trans (h.1.mono hb0.size))) (by omega) h.1.size
      refine op_val (.slice (some ⟨g3, 0, none⟩) n c3) rfl (by kernel_rfl) (run_app (.tmp 21) (.tmp 22) (.slice (some ⟨D, 0, none⟩) 0 0) (.slice a n cap) _ rfl rfl (by kernel_rfl) (by kernel_rfl) hr) ?_
      exact ST025 _ _ _ D g3 c3 E (by kernel_rfl) (by kernel_rfl) ⟨h.1.trans (hb.mono h.1.size), ho, own8_below h.2.2.1 hb, by have h1 := h.2.2.2; have h2 := (h.2.2.1.lt E rfl).2; omega⟩
    · have hb : Below wx.heap.size wx (wx.alloc (.cells #[.int .u8 0] 5)) := (Below.refl _ _).alloc (Nat.le_refl _) _
      refine op_val (.slice (some ⟨wx.heap.size, 0, none⟩) 1 1) rfl (by kernel_rfl) (w' := wx.alloc (.cells #[.int .u8 0] 5)) (by kernel_rfl) ?_
      exact ST035 _ _ _ D wx.heap.size E (by kernel_rfl) (by kernel_rfl) ⟨h.1.trans (hb.mono h.1.size), own8_below h.2.1 hb, ⟨by simp, cell_of_row _ _ 0 _ _ _ (heap_alloc_new _ _)⟩, own8_below h.2.2.1 hb, h.2.2.2⟩
    · refine op_load 25 (.tmp 5) (.pointer (some ⟨B, 0, none⟩)) (.agg (ar .u8 32 y0)) rfl rfl (by kernel_rfl) (by kernel_rfl) (ld32 ((h.1.block _ hBl).trans hB)) ?_
      exact ST059 _ _ _ D E (by kernel_rfl) (by kernel_rfl) h
  have ST09 : ∀ (L : Array Bool) (F : Act) (wx : World) (D : Nat), L = #[true, true, false, false, false, false, true, false, false, true, false, false, false, false, false] → F = ⟨(.slice a n cap :: .slice b m cap2 :: s2 :: s3 :: s4 :: .pointer (some ⟨B, 0, none⟩) :: s6 :: s7 :: s8 :: s9 :: s10 :: s11 :: s12 :: s13 :: s14 :: s15 :: s16 :: s17 :: s18 :: s19 :: s20 :: .slice (some ⟨D, 0, none⟩) 0 0 :: .slice a n cap :: s23 :: s24 :: s25 :: s26 :: .slice b m cap2 :: s28 :: s29 :: .agg (ar .u8 32 y0) :: s31 :: s32 :: s33 :: s34 :: s35 :: []).toArray, []⟩ → (Below wr.heap.size wr wx ∧ Own8 wr.heap.size f 0 (.slice (some ⟨D, 0, none⟩) 0 0) wx) → wpAny Tryd.prog .any ((Tryd.f4.body.bind (regIn 5)).getD #[]) Q 11 L F wx := by
    intro L F wx D hL hF h
    subst hL hF
    refine wpAny_all (rs := [2, 3, 5]) (by kernel_rfl) (by decide) ?_
    intro i hi
    simp only [List.mem_cons, List.not_mem_nil, or_false] at hi
    rcases hi with rfl | rfl | rfl
    · obtain ⟨g3, c3, w', hr, ho, hb, hgg⟩ := copiedO h.2 (hu.below (hb0.trans (h.1.mono hb0.size))) (by omega) h.1.size
      refine op_val (.slice (some ⟨g3, 0, none⟩) n c3) rfl (by kernel_rfl) (run_app (.tmp 21) (.tmp 22) (.slice (some ⟨D, 0, none⟩) 0 0) (.slice a n cap) _ rfl rfl (by kernel_rfl) (by kernel_rfl) hr) ?_
      exact ST029 _ _ _ D g3 c3 (by kernel_rfl) (by kernel_rfl) ⟨h.1.trans (hb.mono h.1.size), ho⟩
    · have hb : Below wx.heap.size wx (wx.alloc (.cells #[.int .u8 0] 5)) := (Below.refl _ _).alloc (Nat.le_refl _) _
      refine op_val (.slice (some ⟨wx.heap.size, 0, none⟩) 1 1) rfl (by kernel_rfl) (w' := wx.alloc (.cells #[.int .u8 0] 5)) (by kernel_rfl) ?_
      exact ST039 _ _ _ D wx.heap.size (by kernel_rfl) (by kernel_rfl) ⟨h.1.trans (hb.mono h.1.size), own8_below h.2 hb, ⟨by simp, cell_of_row _ _ 0 _ _ _ (heap_alloc_new _ _)⟩⟩
    · have hb : Below wx.heap.size wx (wx.alloc (.cells #[] 5)) := (Below.refl _ _).alloc (Nat.le_refl _) _
      refine op_val (.slice (some ⟨wx.heap.size, 0, none⟩) 0 0) rfl (by kernel_rfl) (w' := wx.alloc (.cells #[] 5)) (by kernel_rfl) ?_
      have ho : Own8 wr.heap.size g 0 (.slice (some ⟨wx.heap.size, 0, none⟩) 0 0) (wx.alloc (.cells #[] 5)) := by simpa [Own8, p8] using World.ownsRow_made (base := wr.heap.size) (e := 5) (size := 1) wx #[] 0 h.1.size (by decide) (by simp)
      exact ST059 _ _ _ D wx.heap.size (by kernel_rfl) (by kernel_rfl) ⟨h.1.trans (hb.mono h.1.size), own8_below h.2 hb, ho, by have := (h.2.lt D rfl).2; omega⟩
  have ST35 : ∀ (L : Array Bool) (F : Act) (wx : World) (Z : Nat) (E : Nat), L = #[false, true, false, true, false, true, true, false, false, false, false, false, false, false, false] → F = ⟨(.slice a n cap :: .slice b m cap2 :: s2 :: s3 :: s4 :: .pointer (some ⟨B, 0, none⟩) :: s6 :: s7 :: s8 :: s9 :: s10 :: s11 :: s12 :: s13 :: s14 :: s15 :: s16 :: s17 :: s18 :: s19 :: s20 :: s21 :: .slice a n cap :: s23 :: .slice (some ⟨Z, 0, none⟩) 1 1 :: s25 :: .slice (some ⟨E, 0, none⟩) 0 0 :: .slice b m cap2 :: s28 :: s29 :: s30 :: s31 :: s32 :: s33 :: s34 :: s35 :: []).toArray, []⟩ → (Below wr.heap.size wr wx ∧ (Z < wx.heap.size ∧ wx.cell? ⟨Z, 0, none⟩ = some (.int .u8 0)) ∧ Own8 wr.heap.size g 0 (.slice (some ⟨E, 0, none⟩) 0 0) wx) → wpAny Tryd.prog .any ((Tryd.f4.body.bind (regIn 5)).getD #[]) Q 11 L F wx := by
    intro L F wx Z E hL hF h
    subst hL hF
    refine wpAny_all (rs := [0, 9]) (by kernel_rfl) (by decide) ?_
    intro i hi
    simp only [List.mem_cons, List.not_mem_nil, or_false] at hi
    rcases hi with rfl | rfl
    · have hb : Below wx.heap.size wx (wx.alloc (.cells #[] 5)) := (Below.refl _ _).alloc (Nat.le_refl _) _
      refine op_val (.slice (some ⟨wx.heap.size, 0, none⟩) 0 0) rfl (by kernel_rfl) (w' := wx.alloc (.cells #[] 5)) (by kernel_rfl) ?_
      have ho : Own8 wr.heap.size f 0 (.slice (some ⟨wx.heap.size, 0, none⟩) 0 0) (wx.alloc (.cells #[] 5)) := by simpa [Own8, p8] using World.ownsRow_made (base := wr.heap.size) (e := 5) (size := 1) wx #[] 0 h.1.size (by decide) (by simp)
      exact ST035 _ _ _ wx.heap.size Z E (by kernel_rfl) (by kernel_rfl) ⟨h.1.trans (hb.mono h.1.size), ho, ⟨Nat.lt_of_lt_of_le h.2.1.1 hb.size, (hb.cell (p := ⟨Z, 0, none⟩) h.2.1.1).trans h.2.1.2⟩, own8_below h.2.2 hb, by have := (h.2.2.lt E rfl).2; omega⟩
    · refine op_load 25 (.tmp 5) (.pointer (some ⟨B, 0, none⟩)) (.agg (ar .u8 32 y0)) rfl rfl (by kernel_rfl) (by kernel_rfl) (ld32 ((h.1.block _ hBl).trans hB)) ?_
      exact ST359 _ _ _ Z E (by kernel_rfl) (by kernel_rfl) h
  have ST39 : ∀ (L : Array Bool) (F : Act) (wx : World) (Z : Nat), L = #[false, true, false, true, false, false, true, false, false, true, false, false, false, false, false] → F = ⟨(.slice a n cap :: .slice b m cap2 :: s2 :: s3 :: s4 :: .pointer (some ⟨B, 0, none⟩) :: s6 :: s7 :: s8 :: s9 :: s10 :: s11 :: s12 :: s13 :: s14 :: s15 :: s16 :: s17 :: s18 :: s19 :: s20 :: s21 :: .slice a n cap :: s23 :: .slice (some ⟨Z, 0, none⟩) 1 1 :: s25 :: s26 :: .slice b m cap2 :: s28 :: s29 :: .agg (ar .u8 32 y0) :: s31 :: s32 :: s33 :: s34 :: s35 :: []).toArray, []⟩ → (Below wr.heap.size wr wx ∧ (Z < wx.heap.size ∧ wx.cell? ⟨Z, 0, none⟩ = some (.int .u8 0))) → wpAny Tryd.prog .any ((Tryd.f4.body.bind (regIn 5)).getD #[]) Q 11 L F wx := by
    intro L F wx Z hL hF h
    subst hL hF
    refine wpAny_all (rs := [0, 5]) (by kernel_rfl) (by decide) ?_
    intro i hi
    simp only [List.mem_cons, List.not_mem_nil, or_false] at hi
    rcases hi with rfl | rfl
    · have hb : Below wx.heap.size wx (wx.alloc (.cells #[] 5)) := (Below.refl _ _).alloc (Nat.le_refl _) _
      refine op_val (.slice (some ⟨wx.heap.size, 0, none⟩) 0 0) rfl (by kernel_rfl) (w' := wx.alloc (.cells #[] 5)) (by kernel_rfl) ?_
      have ho : Own8 wr.heap.size f 0 (.slice (some ⟨wx.heap.size, 0, none⟩) 0 0) (wx.alloc (.cells #[] 5)) := by simpa [Own8, p8] using World.ownsRow_made (base := wr.heap.size) (e := 5) (size := 1) wx #[] 0 h.1.size (by decide) (by simp)
      exact ST039 _ _ _ wx.heap.size Z (by kernel_rfl) (by kernel_rfl) ⟨h.1.trans (hb.mono h.1.size), ho, ⟨Nat.lt_of_lt_of_le h.2.1 hb.size, (hb.cell (p := ⟨Z, 0, none⟩) h.2.1).trans h.2.2⟩⟩
    · have hb : Below wx.heap.size wx (wx.alloc (.cells #[] 5)) := (Below.refl _ _).alloc (Nat.le_refl _) _
      refine op_val (.slice (some ⟨wx.heap.size, 0, none⟩) 0 0) rfl (by kernel_rfl) (w' := wx.alloc (.cells #[] 5)) (by kernel_rfl) ?_
      have ho : Own8 wr.heap.size g 0 (.slice (some ⟨wx.heap.size, 0, none⟩) 0 0) (wx.alloc (.cells #[] 5)) := by simpa [Own8, p8] using World.ownsRow_made (base := wr.heap.size) (e := 5) (size := 1) wx #[] 0 h.1.size (by decide) (by simp)
      exact ST359 _ _ _ Z wx.heap.size (by kernel_rfl) (by kernel_rfl) ⟨h.1.trans (hb.mono h.1.size), ⟨Nat.lt_of_lt_of_le h.2.1 hb.size, (hb.cell (p := ⟨Z, 0, none⟩) h.2.1).trans h.2.2⟩, ho⟩
  have ST59 : ∀ (L : Array Bool) (F : Act) (wx : World) (E : Nat), L = #[false, true, false, false, false, true, true, false, false, true, false, false, false, false, false] → F = ⟨(.slice a n cap :: .slice b m cap2 :: s2 :: s3 :: s4 :: .pointer (some ⟨B, 0, none⟩) :: s6 :: s7 :: s8 :: s9 :: s10 :: s11 :: s12 :: s13 :: s14 :: s15 :: s16 :: s17 :: s18 :: s19 :: s20 :: s21 :: .slice a n cap :: s23 :: s24 :: s25 :: .slice (some ⟨E, 0, none⟩) 0 0 :: .slice b m cap2 :: s28 :: s29 :: .agg (ar .u8 32 y0) :: s31 :: s32 :: s33 :: s34 :: s35 :: []).toArray, []⟩ → (Below wr.heap.size wr wx ∧ Own8 wr.heap.size g 0 (.slice (some ⟨E, 0, none⟩) 0 0) wx) → wpAny Tryd.prog .any ((Tryd.f4.body.bind (regIn 5)).getD #[]) Q 11 L F wx := by
    intro L F wx E hL hF h
    subst hL hF
    refine wpAny_all (rs := [0, 3]) (by kernel_rfl) (by decide) ?_
    intro i hi
    simp only [List.mem_cons, List.not_mem_nil, or_false] at hi
    rcases hi with rfl | rfl
    · have hb : Below wx.heap.size wx (wx.alloc (.cells #[] 5)) := (Below.refl _ _).alloc (Nat.le_refl _) _
      refine op_val (.slice (some ⟨wx.heap.size, 0, none⟩) 0 0) rfl (by kernel_rfl) (w' := wx.alloc (.cells #[] 5)) (by kernel_rfl) ?_
      have ho : Own8 wr.heap.size f 0 (.slice (some ⟨wx.heap.size, 0, none⟩) 0 0) (wx.alloc (.cells #[] 5)) := by simpa [Own8, p8] using World.ownsRow_made (base := wr.heap.size) (e := 5) (size := 1) wx #[] 0 h.1.size (by decide) (by simp)
      exact ST059 _ _ _ wx.heap.size E (by kernel_rfl) (by kernel_rfl) ⟨h.1.trans (hb.mono h.1.size), ho, own8_below h.2 hb, by have := (h.2.lt E rfl).2; omega⟩
    · have hb : Below wx.heap.size wx (wx.alloc (.cells #[.int .u8 0] 5)) := (Below.refl _ _).alloc (Nat.le_refl _) _
      refine op_val (.slice (some ⟨wx.heap.size, 0, none⟩) 1 1) rfl (by kernel_rfl) (w' := wx.alloc (.cells #[.int .u8 0] 5)) (by kernel_rfl) ?_
      exact ST359 _ _ _ wx.heap.size E (by kernel_rfl) (by kernel_rfl) ⟨h.1.trans (hb.mono h.1.size), ⟨by simp, cell_of_row _ _ 0 _ _ _ (heap_alloc_new _ _)⟩, own8_below h.2 hb⟩
  have ST0 : ∀ (L : Array Bool) (F : Act) (wx : World) (D : Nat), L = #[true, true, false, false, false, false, true, false, false, false, false, false, false, false, false] → F = ⟨(.slice a n cap :: .slice b m cap2 :: s2 :: s3 :: s4 :: .pointer (some ⟨B, 0, none⟩) :: s6 :: s7 :: s8 :: s9 :: s10 :: s11 :: s12 :: s13 :: s14 :: s15 :: s16 :: s17 :: s18 :: s19 :: s20 :: .slice (some ⟨D, 0, none⟩) 0 0 :: .slice a n cap :: s23 :: s24 :: s25 :: s26 :: .slice b m cap2 :: s28 :: s29 :: s30 :: s31 :: s32 :: s33 :: s34 :: s35 :: []).toArray, []⟩ → (Below wr.heap.size wr wx ∧ Own8 wr.heap.size f 0 (.slice (some ⟨D, 0, none⟩) 0 0) wx) → wpAny Tryd.prog .any ((Tryd.f4.body.bind (regIn 5)).getD #[]) Q 12 L F wx := by
    intro L F wx D hL hF h
    subst hL hF
    refine wpAny_all (rs := [2, 3, 5, 9]) (by kernel_rfl) (by decide) ?_
    intro i hi
    simp only [List.mem_cons, List.not_mem_nil, or_false] at hi
    rcases hi with rfl | rfl | rfl | rfl
    · obtain ⟨g3, c3, w', hr, ho, hb, hgg⟩ := copiedO h.2 (hu.below (hb0.trans (h.1.mono hb0.size))) (by omega) h.1.size
      refine op_val (.slice (some ⟨g3, 0, none⟩) n c3) rfl (by kernel_rfl) (run_app (.tmp 21) (.tmp 22) (.slice (some ⟨D, 0, none⟩) 0 0) (.slice a n cap) _ rfl rfl (by kernel_rfl) (by kernel_rfl) hr) ?_
      exact ST02 _ _ _ D g3 c3 (by kernel_rfl) (by kernel_rfl) ⟨h.1.trans (hb.mono h.1.size), ho⟩
    · have hb : Below wx.heap.size wx (wx.alloc (.cells #[.int .u8 0] 5)) := (Below.refl _ _).alloc (Nat.le_refl _) _
      refine op_val (.slice (some ⟨wx.heap.size, 0, none⟩) 1 1) rfl (by kernel_rfl) (w' := wx.alloc (.cells #[.int .u8 0] 5)) (by kernel_rfl) ?_
      exact ST03 _ _ _ D wx.heap.size (by kernel_rfl) (by kernel_rfl) ⟨h.1.trans (hb.mono h.1.size), own8_below h.2 hb, ⟨by simp, cell_of_row _ _ 0 _ _ _ (heap_alloc_new _ _)⟩⟩
    · have hb : Below wx.heap.size wx (wx.alloc (.cells #[] 5)) := (Below.refl _ _).alloc (Nat.le_refl _) _
      refine op_val (.slice (some ⟨wx.heap.size, 0, none⟩) 0 0) rfl (by kernel_rfl) (w' := wx.alloc (.cells #[] 5)) (by kernel_rfl) ?_
      have ho : Own8 wr.heap.size g 0 (.slice (some ⟨wx.heap.size, 0, none⟩) 0 0) (wx.alloc (.cells #[] 5)) := by simpa [Own8, p8] using World.ownsRow_made (base := wr.heap.size) (e := 5) (size := 1) wx #[] 0 h.1.size (by decide) (by simp)
      exact ST05 _ _ _ D wx.heap.size (by kernel_rfl) (by kernel_rfl) ⟨h.1.trans (hb.mono h.1.size), own8_below h.2 hb, ho, by have := (h.2.lt D rfl).2; omega⟩
    · refine op_load 25 (.tmp 5) (.pointer (some ⟨B, 0, none⟩)) (.agg (ar .u8 32 y0)) rfl rfl (by kernel_rfl) (by kernel_rfl) (ld32 ((h.1.block _ hBl).trans hB)) ?_
      exact ST09 _ _ _ D (by kernel_rfl) (by kernel_rfl) h
  have ST3 : ∀ (L : Array Bool) (F : Act) (wx : World) (Z : Nat), L = #[false, true, false, true, false, false, true, false, false, false, false, false, false, false, false] → F = ⟨(.slice a n cap :: .slice b m cap2 :: s2 :: s3 :: s4 :: .pointer (some ⟨B, 0, none⟩) :: s6 :: s7 :: s8 :: s9 :: s10 :: s11 :: s12 :: s13 :: s14 :: s15 :: s16 :: s17 :: s18 :: s19 :: s20 :: s21 :: .slice a n cap :: s23 :: .slice (some ⟨Z, 0, none⟩) 1 1 :: s25 :: s26 :: .slice b m cap2 :: s28 :: s29 :: s30 :: s31 :: s32 :: s33 :: s34 :: s35 :: []).toArray, []⟩ → (Below wr.heap.size wr wx ∧ (Z < wx.heap.size ∧ wx.cell? ⟨Z, 0, none⟩ = some (.int .u8 0))) → wpAny Tryd.prog .any ((Tryd.f4.body.bind (regIn 5)).getD #[]) Q 12 L F wx := by
    intro L F wx Z hL hF h
    subst hL hF
    refine wpAny_all (rs := [0, 5, 9]) (by kernel_rfl) (by decide) ?_
    intro i hi
    simp only [List.mem_cons, List.not_mem_nil, or_false] at hi
    rcases hi with rfl | rfl | rfl
    · have hb : Below wx.heap.size wx (wx.alloc (.cells #[] 5)) := (Below.refl _ _).alloc (Nat.le_refl _) _
      refine op_val (.slice (some ⟨wx.heap.size, 0, none⟩) 0 0) rfl (by kernel_rfl) (w' := wx.alloc (.cells #[] 5)) (by kernel_rfl) ?_
      have ho : Own8 wr.heap.size f 0 (.slice (some ⟨wx.heap.size, 0, none⟩) 0 0) (wx.alloc (.cells #[] 5)) := by simpa [Own8, p8] using World.ownsRow_made (base := wr.heap.size) (e := 5) (size := 1) wx #[] 0 h.1.size (by decide) (by simp)
      exact ST03 _ _ _ wx.heap.size Z (by kernel_rfl) (by kernel_rfl) ⟨h.1.trans (hb.mono h.1.size), ho, ⟨Nat.lt_of_lt_of_le h.2.1 hb.size, (hb.cell (p := ⟨Z, 0, none⟩) h.2.1).trans h.2.2⟩⟩
    · have hb : Below wx.heap.size wx (wx.alloc (.cells #[] 5)) := (Below.refl _ _).alloc (Nat.le_refl _) _
      refine op_val (.slice (some ⟨wx.heap.size, 0, none⟩) 0 0) rfl (by kernel_rfl) (w' := wx.alloc (.cells #[] 5)) (by kernel_rfl) ?_
      have ho : Own8 wr.heap.size g 0 (.slice (some ⟨wx.heap.size, 0, none⟩) 0 0) (wx.alloc (.cells #[] 5)) := by simpa [Own8, p8] using World.ownsRow_made (base := wr.heap.size) (e := 5) (size := 1) wx #[] 0 h.1.size (by decide) (by simp)
      exact ST35 _ _ _ Z wx.heap.size (by kernel_rfl) (by kernel_rfl) ⟨h.1.trans (hb.mono h.1.size), ⟨Nat.lt_of_lt_of_le h.2.1 hb.size, (hb.cell (p := ⟨Z, 0, none⟩) h.2.1).trans h.2.2⟩, ho⟩
    · refine op_load 25 (.tmp 5) (.pointer (some ⟨B, 0, none⟩)) (.agg (ar .u8 32 y0)) rfl rfl (by kernel_rfl) (by kernel_rfl) (ld32 ((h.1.block _ hBl).trans hB)) ?_
      exact ST39 _ _ _ Z (by kernel_rfl) (by kernel_rfl) h
  have ST5 : ∀ (L : Array Bool) (F : Act) (wx : World) (E : Nat), L = #[false, true, false, false, false, true, true, false, false, false, false, false, false, false, false] → F = ⟨(.slice a n cap :: .slice b m cap2 :: s2 :: s3 :: s4 :: .pointer (some ⟨B, 0, none⟩) :: s6 :: s7 :: s8 :: s9 :: s10 :: s11 :: s12 :: s13 :: s14 :: s15 :: s16 :: s17 :: s18 :: s19 :: s20 :: s21 :: .slice a n cap :: s23 :: s24 :: s25 :: .slice (some ⟨E, 0, none⟩) 0 0 :: .slice b m cap2 :: s28 :: s29 :: s30 :: s31 :: s32 :: s33 :: s34 :: s35 :: []).toArray, []⟩ → (Below wr.heap.size wr wx ∧ Own8 wr.heap.size g 0 (.slice (some ⟨E, 0, none⟩) 0 0) wx) → wpAny Tryd.prog .any ((Tryd.f4.body.bind (regIn 5)).getD #[]) Q 12 L F wx := by
    intro L F wx E hL hF h
    subst hL hF
    refine wpAny_all (rs := [0, 3, 9]) (by kernel_rfl) (by decide) ?_
    intro i hi
    simp only [List.mem_cons, List.not_mem_nil, or_false] at hi
    rcases hi with rfl | rfl | rfl
    · have hb : Below wx.heap.size wx (wx.alloc (.cells #[] 5)) := (Below.refl _ _).alloc (Nat.le_refl _) _
      refine op_val (.slice (some ⟨wx.heap.size, 0, none⟩) 0 0) rfl (by kernel_rfl) (w' := wx.alloc (.cells #[] 5)) (by kernel_rfl) ?_
      have ho : Own8 wr.heap.size f 0 (.slice (some ⟨wx.heap.size, 0, none⟩) 0 0) (wx.alloc (.cells #[] 5)) := by simpa [Own8, p8] using World.ownsRow_made (base := wr.heap.size) (e := 5) (size := 1) wx #[] 0 h.1.size (by decide) (by simp)
      exact ST05 _ _ _ wx.heap.size E (by kernel_rfl) (by kernel_rfl) ⟨h.1.trans (hb.mono h.1.size), ho, own8_below h.2 hb, by have := (h.2.lt E rfl).2; omega⟩
    · have hb : Below wx.heap.size wx (wx.alloc (.cells #[.int .u8 0] 5)) := (Below.refl _ _).alloc (Nat.le_refl _) _
      refine op_val (.slice (some ⟨wx.heap.size, 0, none⟩) 1 1) rfl (by kernel_rfl) (w' := wx.alloc (.cells #[.int .u8 0] 5)) (by kernel_rfl) ?_
      exact ST35 _ _ _ wx.heap.size E (by kernel_rfl) (by kernel_rfl) ⟨h.1.trans (hb.mono h.1.size), ⟨by simp, cell_of_row _ _ 0 _ _ _ (heap_alloc_new _ _)⟩, own8_below h.2 hb⟩
    · refine op_load 25 (.tmp 5) (.pointer (some ⟨B, 0, none⟩)) (.agg (ar .u8 32 y0)) rfl rfl (by kernel_rfl) (by kernel_rfl) (ld32 ((h.1.block _ hBl).trans hB)) ?_
      exact ST59 _ _ _ E (by kernel_rfl) (by kernel_rfl) h
  have ST9 : ∀ (L : Array Bool) (F : Act) (wx : World), L = #[false, true, false, false, false, false, true, false, false, true, false, false, false, false, false] → F = ⟨(.slice a n cap :: .slice b m cap2 :: s2 :: s3 :: s4 :: .pointer (some ⟨B, 0, none⟩) :: s6 :: s7 :: s8 :: s9 :: s10 :: s11 :: s12 :: s13 :: s14 :: s15 :: s16 :: s17 :: s18 :: s19 :: s20 :: s21 :: .slice a n cap :: s23 :: s24 :: s25 :: s26 :: .slice b m cap2 :: s28 :: s29 :: .agg (ar .u8 32 y0) :: s31 :: s32 :: s33 :: s34 :: s35 :: []).toArray, []⟩ → (Below wr.heap.size wr wx) → wpAny Tryd.prog .any ((Tryd.f4.body.bind (regIn 5)).getD #[]) Q 12 L F wx := by
    intro L F wx  hL hF h
    subst hL hF
    refine wpAny_all (rs := [0, 3, 5]) (by kernel_rfl) (by decide) ?_
    intro i hi
    simp only [List.mem_cons, List.not_mem_nil, or_false] at hi
    rcases hi with rfl | rfl | rfl
    · have hb : Below wx.heap.size wx (wx.alloc (.cells #[] 5)) := (Below.refl _ _).alloc (Nat.le_refl _) _
      refine op_val (.slice (some ⟨wx.heap.size, 0, none⟩) 0 0) rfl (by kernel_rfl) (w' := wx.alloc (.cells #[] 5)) (by kernel_rfl) ?_
      have ho : Own8 wr.heap.size f 0 (.slice (some ⟨wx.heap.size, 0, none⟩) 0 0) (wx.alloc (.cells #[] 5)) := by simpa [Own8, p8] using World.ownsRow_made (base := wr.heap.size) (e := 5) (size := 1) wx #[] 0 h.size (by decide) (by simp)
      exact ST09 _ _ _ wx.heap.size (by kernel_rfl) (by kernel_rfl) ⟨h.trans (hb.mono h.size), ho⟩
    · have hb : Below wx.heap.size wx (wx.alloc (.cells #[.int .u8 0] 5)) := (Below.refl _ _).alloc (Nat.le_refl _) _
      refine op_val (.slice (some ⟨wx.heap.size, 0, none⟩) 1 1) rfl (by kernel_rfl) (w' := wx.alloc (.cells #[.int .u8 0] 5)) (by kernel_rfl) ?_
      exact ST39 _ _ _ wx.heap.size (by kernel_rfl) (by kernel_rfl) ⟨h.trans (hb.mono h.size), ⟨by simp, cell_of_row _ _ 0 _ _ _ (heap_alloc_new _ _)⟩⟩
    · have hb : Below wx.heap.size wx (wx.alloc (.cells #[] 5)) := (Below.refl _ _).alloc (Nat.le_refl _) _
      refine op_val (.slice (some ⟨wx.heap.size, 0, none⟩) 0 0) rfl (by kernel_rfl) (w' := wx.alloc (.cells #[] 5)) (by kernel_rfl) ?_
      have ho : Own8 wr.heap.size g 0 (.slice (some ⟨wx.heap.size, 0, none⟩) 0 0) (wx.alloc (.cells #[] 5)) := by simpa [Own8, p8] using World.ownsRow_made (base := wr.heap.size) (e := 5) (size := 1) wx #[] 0 h.size (by decide) (by simp)
      exact ST59 _ _ _ wx.heap.size (by kernel_rfl) (by kernel_rfl) ⟨h.trans (hb.mono h.size), ho⟩
  have ST : ∀ (L : Array Bool) (F : Act) (wx : World), L = #[false, true, false, false, false, false, true, false, false, false, false, false, false, false, false] → F = ⟨(.slice a n cap :: .slice b m cap2 :: s2 :: s3 :: s4 :: .pointer (some ⟨B, 0, none⟩) :: s6 :: s7 :: s8 :: s9 :: s10 :: s11 :: s12 :: s13 :: s14 :: s15 :: s16 :: s17 :: s18 :: s19 :: s20 :: s21 :: .slice a n cap :: s23 :: s24 :: s25 :: s26 :: .slice b m cap2 :: s28 :: s29 :: s30 :: s31 :: s32 :: s33 :: s34 :: s35 :: []).toArray, []⟩ → (Below wr.heap.size wr wx) → wpAny Tryd.prog .any ((Tryd.f4.body.bind (regIn 5)).getD #[]) Q 13 L F wx := by
    intro L F wx  hL hF h
    subst hL hF
    refine wpAny_all (rs := [0, 3, 5, 9]) (by kernel_rfl) (by decide) ?_
    intro i hi
    simp only [List.mem_cons, List.not_mem_nil, or_false] at hi
    rcases hi with rfl | rfl | rfl | rfl
    · have hb : Below wx.heap.size wx (wx.alloc (.cells #[] 5)) := (Below.refl _ _).alloc (Nat.le_refl _) _
      refine op_val (.slice (some ⟨wx.heap.size, 0, none⟩) 0 0) rfl (by kernel_rfl) (w' := wx.alloc (.cells #[] 5)) (by kernel_rfl) ?_
      have ho : Own8 wr.heap.size f 0 (.slice (some ⟨wx.heap.size, 0, none⟩) 0 0) (wx.alloc (.cells #[] 5)) := by simpa [Own8, p8] using World.ownsRow_made (base := wr.heap.size) (e := 5) (size := 1) wx #[] 0 h.size (by decide) (by simp)
      exact ST0 _ _ _ wx.heap.size (by kernel_rfl) (by kernel_rfl) ⟨h.trans (hb.mono h.size), ho⟩
    · have hb : Below wx.heap.size wx (wx.alloc (.cells #[.int .u8 0] 5)) := (Below.refl _ _).alloc (Nat.le_refl _) _
      refine op_val (.slice (some ⟨wx.heap.size, 0, none⟩) 1 1) rfl (by kernel_rfl) (w' := wx.alloc (.cells #[.int .u8 0] 5)) (by kernel_rfl) ?_
      exact ST3 _ _ _ wx.heap.size (by kernel_rfl) (by kernel_rfl) ⟨h.trans (hb.mono h.size), ⟨by simp, cell_of_row _ _ 0 _ _ _ (heap_alloc_new _ _)⟩⟩
    · have hb : Below wx.heap.size wx (wx.alloc (.cells #[] 5)) := (Below.refl _ _).alloc (Nat.le_refl _) _
      refine op_val (.slice (some ⟨wx.heap.size, 0, none⟩) 0 0) rfl (by kernel_rfl) (w' := wx.alloc (.cells #[] 5)) (by kernel_rfl) ?_
      have ho : Own8 wr.heap.size g 0 (.slice (some ⟨wx.heap.size, 0, none⟩) 0 0) (wx.alloc (.cells #[] 5)) := by simpa [Own8, p8] using World.ownsRow_made (base := wr.heap.size) (e := 5) (size := 1) wx #[] 0 h.size (by decide) (by simp)
      exact ST5 _ _ _ wx.heap.size (by kernel_rfl) (by kernel_rfl) ⟨h.trans (hb.mono h.size), ho⟩
    · refine op_load 25 (.tmp 5) (.pointer (some ⟨B, 0, none⟩)) (.agg (ar .u8 32 y0)) rfl rfl (by kernel_rfl) (by kernel_rfl) (ld32 ((h.block _ hBl).trans hB)) ?_
      exact ST9 _ _ _  (by kernel_rfl) (by kernel_rfl) h
  refine wp_region_any (by kernel_rfl) ?_
  refine wpAny_take (i := 1) (v := .slice a n cap) rfl (by kernel_rfl) (by kernel_rfl) (by kernel_rfl) (fun c a w h => hQP c a _ _ w h) (Or.inl ⟨by kernel_rfl, fun _ => by kernel_rfl⟩) ?_
  refine wpAny_take (i := 6) (v := .slice b m cap2) rfl (by kernel_rfl) (by kernel_rfl) (by kernel_rfl) (fun c a w h => hQP c a _ _ w h) (Or.inl ⟨by kernel_rfl, fun _ => by kernel_rfl⟩) ?_
  exact ST _ _ _ (by kernel_rfl) (by kernel_rfl) (Below.refl _ _).drew
end Go.Proofs.YtkecehcnoihiiaaDoor
namespace Go.Proofs.YtkecehcnoihiiaaDoor
open Go.RowKit

/-- The worlds of the law: the hash at B. -/
structure CKy (w : World) (B : Nat) (h : Nat → Int) (wx : World) : Prop where
  old : Below w.heap.size w wx
  rb : wx.heap[B]? = some (.cells (ar .u8 32 h) 25 (0, 0))
theorem CKy.below {w wx w' : World} {B : Nat} {h : Nat → Int} (c : CKy w B h wx) (hb : Below wx.heap.size wx w') : CKy w B h w' := ⟨c.old.trans (hb.mono c.old.size), (hb.block _ (Array.getElem?_eq_some_iff.1 c.rb).1).trans c.rb⟩
set_option maxRecDepth 100000 in
set_option maxHeartbeats 4000000 in
-- THE LAW.
theorem skeys_any {n m : Nat} {f g : Nat → Nat} {v u : Value} {w : World} (hn : n ≤ 1048576) (hf : ∀ j, f j < 256) (hm : m ≤ 1048576) (hg : ∀ j, g j < 256) (hT : STab w) (hP : ArgB w v n f) (hU : ArgB w u m g) : Calls Tryd.prog 4 #[v, u] w fun e w' => e = .returned (.bool true) ∧ Below w.heap.size w w' := by
  have HP := Lib.hid hP
  have HU := Lib.hid hU
  obtain ⟨a, cap, rfl, -, -, -⟩ := hP
  obtain ⟨b, cap2, rfl, -, -, -⟩ := hU
  have HT := Lib.hid hT
  have HF := Lib.hid (And.intro hf (And.intro hg (And.intro hn hm)))
  have hb0 : Below w.heap.size w (w.alloc (.cells #[] 5)) := (Below.refl _ _).alloc (Nat.le_refl _) _
  obtain ⟨g1, c1, w2, hr1, hc1, hl1, -, hk1, hb1⟩ := copied (D := w.heap.size) (by simp) (HP.out.below hb0) (show n ≤ 140737488355328 by omega)
  have hb2 : Below w.heap.size w w2 := hb0.trans (hb1.mono (by simp))
  have hb3 : Below w2.heap.size w2 (w2.alloc (.cells #[] 5)) := (Below.refl _ _).alloc (Nat.le_refl _) _
  obtain ⟨g2, c2, w4, hr2, hc2, hl2, -, hk2, hb4⟩ := copied (D := w2.heap.size) (by simp) (HU.out.below (hb2.trans (hb3.mono hb2.size))) (show m ≤ 140737488355328 by omega)
  have hb5 : Below w2.heap.size w2 w4 := hb3.trans (hb4.mono (by simp))
  have HR1 := Lib.hid hr1
  have HR2 := Lib.hid hr2
  have hbw : Below w.heap.size w w4 := hb2.trans (hb5.mono hb2.size)
  have HM := Lib.hid (hhmac (n := n) (m := m) (f := f) (g := g) (by omega) (by omega) hf hg w4 (stab_below hT hbw) ((slb_arg (u := .slice (some ⟨g1, 0, none⟩) n c1) ⟨g1, c1, rfl, hc1, hl1, hk1⟩).below hb5) (slb_arg (u := .slice (some ⟨g2, 0, none⟩) m c2) ⟨g2, c2, rfl, hc2, hl2, hk2⟩))
  have HB4 := Lib.hid hbw
  obtain ⟨h, hh⟩ : ∃ h, hmacH f n g m = h := ⟨_, rfl⟩
  have HRM := Lib.hid (show ∀ wx, Below w.heap.size w wx → Calls Tryd.prog 13 #[.slice a n cap, .slice b m cap2] wx fun e w' => e = .returned (.agg (ar .u8 32 h)) ∧ Below wx.heap.size wx w' from fun wx hb => by rw [← hh]; exact rhmac_any hn hm hf hg (HP.out.below hb) (HU.out.below hb))
  have HLV : Hid (∀ wx, Below w.heap.size w wx → Calls Tryd.prog 11 #[] wx fun e w' => e = .returned (.bool true) ∧ Below wx.heap.size wx w') := Lib.hid fun wx hb => slives wx (stab_below HT.out hb)
  rw [hh] at HM
  have HH := Lib.hid hh
  have hn0 : (0 : Int) ≤ n := by omega
  clear hf hg hT hn hm hb0 hr1 hc1 hl1 hk1 hb1 hb2 hb3 hr2 hc2 hl2 hk2 hb4 hb5 hbw hh
  go_enter Tryd.func4, Tryd.ntmps4
  go_upto_region 1 with fail
  refine region_list ?_
  refine wpList_val (w' := w.alloc (.cells #[] 5)) rfl (.slice (some ⟨w.heap.size, 0, none⟩) 0 0) (by kernel_rfl) ?_
  refine wpList_val (w' := w.alloc (.cells #[] 5)) rfl (.slice a n cap) (by kernel_rfl) ?_
  refine wpList_val (w' := w2) rfl (.slice (some ⟨g1, 0, none⟩) n c1) (run_app (.tmp 6) (.tmp 7) (.slice (some ⟨w.heap.size, 0, none⟩) 0 0) (.slice a n cap) _ (by kernel_rfl) (by kernel_rfl) (by kernel_rfl) (by kernel_rfl) HR1.out) ?_
  refine wpList_val (w' := w2.alloc (.cells #[] 5)) rfl (.slice (some ⟨w2.heap.size, 0, none⟩) 0 0) (by kernel_rfl) ?_
  refine wpList_val (w' := w2.alloc (.cells #[] 5)) rfl (.slice b m cap2) (by kernel_rfl) ?_
  refine wpList_val (w' := w4) rfl (.slice (some ⟨g2, 0, none⟩) m c2) (run_app (.tmp 9) (.tmp 10) (.slice (some ⟨w2.heap.size, 0, none⟩) 0 0) (.slice b m cap2) _ (by kernel_rfl) (by kernel_rfl) (by kernel_rfl) (by kernel_rfl) HR2.out) ?_
  simp only [Act.put, List.setIfInBounds_toArray, List.set_cons_succ, List.set_cons_zero]
  go_wp2_with fail
  refine HM.out.mono ?_
  rintro e w5 ⟨rfl, hb5⟩
  have HRB := Lib.hid (heap_alloc_new w5 (.cells (#[.int .u8 0, .int .u8 0, .int .u8 0, .int .u8 0, .int .u8 0, .int .u8 0, .int .u8 0, .int .u8 0, .int .u8 0, .int .u8 0, .int .u8 0, .int .u8 0, .int .u8 0, .int .u8 0, .int .u8 0, .int .u8 0, .int .u8 0, .int .u8 0, .int .u8 0, .int .u8 0, .int .u8 0, .int .u8 0, .int .u8 0, .int .u8 0, .int .u8 0, .int .u8 0, .int .u8 0, .int .u8 0, .int .u8 0, .int .u8 0, .int .u8 0, .int .u8 0]) 25))
  obtain ⟨B, hB⟩ : ∃ B, w5.heap.size = B := ⟨_, rfl⟩
  have HI : Hid ((Tryd.prog.info? 25).map (·.size) = some (ar .u8 32 h).size) := Lib.hid (by rw [ar_size]; exact info32s)
  have hbw5 : Below w.heap.size w w5 := HB4.out.trans (hb5.mono HB4.out.size)
  have H6 := Lib.hid (show CKy w B h ((w5.alloc (.cells (#[.int .u8 0, .int .u8 0, .int .u8 0, .int .u8 0, .int .u8 0, .int .u8 0, .int .u8 0, .int .u8 0, .int .u8 0, .int .u8 0, .int .u8 0, .int .u8 0, .int .u8 0, .int .u8 0, .int .u8 0, .int .u8 0, .int .u8 0, .int .u8 0, .int .u8 0, .int .u8 0, .int .u8 0, .int .u8 0, .int .u8 0, .int .u8 0, .int .u8 0, .int .u8 0, .int .u8 0, .int .u8 0, .int .u8 0, .int .u8 0, .int .u8 0, .int .u8 0]) 25)).setRow B (ar .u8 32 h)) from by
    rw [← hB]
    exact ⟨below_setRow (hbw5.alloc hbw5.size _) hbw5.size _, setRow_heap _ _ _ _ _ _ HRB.out⟩)
  rw [hB] at HRB
  clear hb5 hbw5 HM HR1 HR2 HB4
  go_upto_region 2 with (refine wpList_store_row rfl 25 _ _ rfl B (ar .u8 32 h) rfl rfl 25 _ HRB.out HI.out (by rw [ar_size]; rfl) (ar_one _ _ _) ?_)
  obtain ⟨w6, hw6⟩ : ∃ z, (w5.alloc (.cells (#[.int .u8 0, .int .u8 0, .int .u8 0, .int .u8 0, .int .u8 0, .int .u8 0, .int .u8 0, .int .u8 0, .int .u8 0, .int .u8 0, .int .u8 0, .int .u8 0, .int .u8 0, .int .u8 0, .int .u8 0, .int .u8 0, .int .u8 0, .int .u8 0, .int .u8 0, .int .u8 0, .int .u8 0, .int .u8 0, .int .u8 0, .int .u8 0, .int .u8 0, .int .u8 0, .int .u8 0, .int .u8 0, .int .u8 0, .int .u8 0, .int .u8 0, .int .u8 0]) 25)).setRow B (ar .u8 32 h) = z := ⟨_, rfl⟩
  rw [hw6] at H6 ⊢
  clear hw6 HRB hB HI
  refine wp_region_quiet (C := CKy w B h) (by kernel_rfl) (by kernel_rfl) ⟨H6.out.old.drew, H6.out.rb⟩ ?_
  with_reducible refine q_load 25 (.tmp 5) (.pointer (some ⟨B, 0, none⟩)) (.agg (ar .u8 32 h)) rfl (by kernel_rfl) (by kernel_rfl) (fun _ c => ld32 c.rb) ?_
  with_reducible refine q_val (.slice a n cap) (by kernel_rfl) (fun _ _ => by kernel_rfl) ?_
  with_reducible refine q_val (.slice b m cap2) (by kernel_rfl) (fun _ _ => by kernel_rfl) ?_
  with_reducible refine q_call 13 #[.slice a n cap, .slice b m cap2] (.agg (ar .u8 32 h)) (by kernel_rfl) (fun _ => by kernel_rfl) (fun wx c => (HRM.out wx c.old).mono fun e w' hh => ⟨hh.1, c.below hh.2⟩) ?_
  with_reducible refine q_bin .neq 25 _ _ 25 (.agg (ar .u8 32 h)) (.agg (ar .u8 32 h)) (.bool false) rfl (by kernel_rfl) (by kernel_rfl) (by kernel_rfl) (fun _ => neg32 _ _ _ _ _) (fun _ => ne32 _ _) ?_
  with_reducible refine wpQuiet_nil ?_
  intro w7 hC
  simp only [Act.put, List.setIfInBounds_toArray, List.set_cons_succ, List.set_cons_zero]
  have H7 := Lib.hid hC
  clear hC H6 HRM
  by_cases hlt : n < 64
  · have hlt' : (n : Int) < 64 := by omega
    go_upto_region 5 with fail
    refine sk_r5 (w := w) hlt HF.out.2.2.2 HF.out.1 HF.out.2.1 HT.out H7.out.old HP.out HU.out H7.out.rb HH.out (fun _ _ d _ _ h => by cases d <;> exact h) ?_
    intro u21 u22 u23 u24 u25 u26 u27 u28 u29 u30 u31 u32 u33 u34 w8 hb8
    have H8 := Lib.hid (H7.out.old.trans (hb8.mono H7.out.old.size))
    clear hb8 H7
    go_wp2_with fail
    go_ret
    exact ⟨rfl, H8.out⟩
  · have hlt' : ¬ ((n : Int) < 64) := by omega
    go_wp2_with fail
    refine (HLV.out _ H7.out.old).mono ?_
    rintro e w8 ⟨rfl, hb8⟩
    have H8 := Lib.hid (H7.out.below hb8)
    clear hb8 H7
    go_wp2_with fail
    go_ret
    exact ⟨rfl, H8.out.old⟩
end Go.Proofs.YtkecehcnoihiiaaDoor
namespace Go.Proofs.YtkecehcnoihiiaaDoor.shaKeys
open Go.ChangeShapes Go.WideShapes Go.ChangeAt Go.RowKit

set_option maxRecDepth 100000 in
theorem contract (H : Type) (enc : TypeId × Value → H) (W : World) (base : Nat) (args : Array Value) (ds gs : List (DataW H)) (before : List MemPlace)
    (hval : ∀ (j : Nat) t v, Tryd.f4.params[j]? = some t → args[j]? = some v → Value.okWide Tryd.prog W .any base t v)
    (hW : DataW.Whole enc Tryd.prog Tryd.f4.params.toList Rows.shaKeysSpec.vars false W args.toList ds gs before) (hk : Rows.uptoSmall H (ds ++ gs) = true) (hT : STab W) :
    Calls Tryd.prog 4 args W fun e W' => ∃ v, e = .returned v ∧ Rows.shaKeysSpec.post enc Tryd.prog Tryd.f4 false true false false W args v W' := by
  have hW' := hW
  obtain ⟨p, q, hA0, hV, rfl, hfz, hnd⟩ := hW
  have hA : DataW.TrodAll enc Tryd.prog W 0 (fun _ => true) true Tryd.f4.params.toList args.toList ds p := hA0
  rw [Tryd.params4] at hA hval
  obtain ⟨v0, vs0, d0, ds0, p0, q0, hargs, rfl, rfl, h0, r0⟩ := trodAll_cons hA
  obtain ⟨v1, vs1, d1, ds1, p1, q1, rfl, rfl, rfl, h1, r1⟩ := trodAll_cons r0
  obtain ⟨rfl, rfl, rfl⟩ := trodAll_nil r1
  obtain rfl : args = #[v0, v1] := by cases args; simp_all
  obtain ⟨rfl, rfl⟩ := trodVars_none hV
  obtain ⟨n0, f0, A0, L0, S0⟩ := open_bytesS (hval 0 22 v0 rfl rfl) h0
  replace S0 := bulk_list hk (d := d0) (by simp) S0
  obtain ⟨n1, f1, A1, L1, S1⟩ := open_bytesS (hval 1 22 v1 rfl rfl) h1
  replace S1 := bulk_list hk (d := d1) (by simp) S1
  clear hA0
  refine (skeys_any S0 L0 S1 L1 hT A0 A1).mono fun e W' ⟨he, hb⟩ => ?_
  subst he
  refine ⟨_, rfl, _, _, _, [], p0 ++ (p1 ++ []), [], hW', trodAll_cons_mk (shut_bool Tryd.underlying4 _) trodAll_mk0, trodAll_cons_mk (Below.trod laidOutF (by kernel_rfl) (of_decide_eq_true (by kernel_rfl)) h0 hb (fun x hx => hW'.lt x (by simp [hx]))) (trodAll_cons_mk (Below.trod laidOutF (by kernel_rfl) (of_decide_eq_true (by kernel_rfl)) h1 hb (fun x hx => hW'.lt x (by simp [hx]))) trodAll_mk0), rfl, hb.frame _, fun h => by cases h⟩

theorem laid_met (os : Os) : laidMet Tryd.prog Rows.shaKeysUptoRow.laid ((laidWorld os).forCall (fun _ _ => 0) ⟨#[], #[.slice none 0 0, .slice none 0 0], []⟩).memory :=
  laidMet_of_run' 80 (by kernel_rfl) (by kernel_rfl)
theorem reads (os : Os) {H : Type} (enc : TypeId × Value → H) : ∃ places, DataW.whole enc Tryd.prog ((laidWorld os).forCall (fun _ _ => 0) ⟨#[], #[.slice none 0 0, .slice none 0 0], []⟩).memory Tryd.f4.params.toList Rows.shaKeysSpec.vars false (#[.slice none 0 0, .slice none 0 0] : Array Value).toList 80 = some ([.nil, .nil], [], places) :=
  ⟨[], by kernel_rfl⟩

set_option maxRecDepth 100000 in
theorem lifted (os : Os) (started : os.Started) (H : Type) (enc : TypeId × Value → H) (F : Stop.Interp) :
    ReturnsInHanded {} Tryd.checked os 4 .any ((Rows.OpenSpec.upto Rows.shaKeysSpec).preRow enc Tryd.prog Tryd.f4 Rows.shaKeysUptoRow.domain false Rows.shaKeysUptoRow.laid) (((Rows.OpenSpec.upto Rows.shaKeysSpec).at F).post enc Tryd.prog Tryd.f4 false true false false) := by
  obtain ⟨places, hx⟩ := reads os enc
  refine returnsInHanded_of_row (C := Tryd.checked) (s := Rows.OpenSpec.upto Rows.shaKeysSpec) ownF started (by kernel_rfl) Tryd.func4
    (witness_row_at (enc := enc) (C := Tryd.checked) false (laidWorld os) #[.slice none 0 0, .slice none 0 0] rfl (by kernel_rfl) (by kernel_rfl) (by kernel_rfl)
      (OpenSpec.preRow_of_cond 80 hx (by kernel_rfl) (fun k hk => by cases hk; kernel_rfl) (by kernel_rfl) (laid_met os))) ?_
  intro W base args ds gs before hval hW _ hcond _ hlaid _ _
  exact contract H enc W base args ds gs before hval hW (hcond _ rfl) (stab_of hlaid (by simp [Rows.shaKeysUptoRow]))

theorem said : Rows.ShaKeysUptoSaid :=
  OpenClaim.holds_of_cond 4 Tryd.f4 rfl rfl rfl rfl rfl rfl rfl ⟨rfl, rfl, rfl, rfl, rfl⟩ rfl rfl rfl rfl rfl (by kernel_rfl) Tryd.func4 (by kernel_rfl)
    (of_decide_eq_true (by kernel_rfl)) (by unfold Func.isWrapper; rw [if_neg (of_decide_eq_false (by kernel_rfl))]; exact ⟨rfl, rfl⟩)
    (fun os started H enc _ F => by rw [OpenClaim.pre_eq_preRow]; exact lifted os started H enc F)

/-- No parameter wants a stand-in; the program's own looks are off: what the card asks. -/
theorem plain (f : FuncId) (fn : Func) (hf : Tryd.pinned.checked.prog.funcNamed "bailiwick/bailiwicklaw04.ShaKeys" = some f) (hfn : Tryd.pinned.checked.prog.funcs[f]? = some fn) :
    false = Tryd.pinned.checked.prog.looks [] ∧ ∀ (j : Nat) t, fn.params[j]? = some t → Tryd.pinned.checked.prog.wantsStandIn t = false := by
  obtain rfl : f = 4 := Option.some.inj ((show Tryd.prog.funcNamed "bailiwick/bailiwicklaw04.ShaKeys" = some 4 by kernel_rfl).symm.trans hf) |>.symm
  obtain rfl : fn = Tryd.f4 := (Option.some.inj (Tryd.func4.symm.trans hfn)).symm
  refine ⟨by kernel_rfl, fun j t ht => ?_⟩
  rw [Tryd.params4] at ht
  have hm := Array.mem_of_getElem? ht
  simp only [List.mem_toArray, List.mem_cons, List.not_mem_nil, or_false, or_self] at hm
  subst hm
  exact (show Tryd.prog.wantsStandIn 22 = false by kernel_rfl)

/-- THE CARD. -/
theorem card : Rows.ShaKeysUptoCardSaid :=
  Claim7.holds_tied_plain_at .later [] _ _ _ _ said (fun _ h => by cases h) (by kernel_rfl) (fun _ h => by cases h) shaKeysUpto_row_tie rfl ⟨rfl, rfl⟩ (by kernel_rfl) rfl plain (by kernel_rfl)
end Go.Proofs.YtkecehcnoihiiaaDoor.shaKeys

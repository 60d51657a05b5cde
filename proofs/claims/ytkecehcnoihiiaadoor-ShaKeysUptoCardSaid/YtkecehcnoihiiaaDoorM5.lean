/- bailiwicklaw04.ShaApart answers true, whatever the bytes and the step, up to a size. (With it, merged: SRSum · SHash · SLit · SLiv · KEq · SSums · SApart.) -/
import Derived.Test.YtkecehcnoihiiaaDoorM3
import Derived.Test.YtkecehcnoihiiaaDoorM4
import Derived.Lib.SlBytesConst
import Derived.Test.YtkecehcnoihiiaaDoorM1
import Derived.Test.YtkecehcnoihiiaaDoorM2
import Derived.Deep.DeepCutAuto
namespace Go.Proofs.YtkecehcnoihiiaaDoor
open Go.RowKit

/-- What the reference's Hash must come to (proved elsewhere). -/
def HashIs : Prop := ∀ (n kg kc : Nat) (f : Nat → Nat) (v : Value) (w : World), n < 1500000 → (∀ j, f j < 256) → ArgB w v n f → (kg < w.heap.size ∧ ∀ j, j < 64 → w.cell? ⟨kg, j, none⟩ = some (.int .u32 (kT j))) →
    Calls Tryd.prog 15 #[v, .slice (some ⟨kg, 0, none⟩) 64 kc, .agg (ar .u32 8 iniH)] w fun e w' => e = .returned (.agg (ar .u8 32 (shaH f n))) ∧ Below w.heap.size w w'
set_option maxRecDepth 100000 in
set_option maxHeartbeats 4000000 in
-- WHAT THE REFERENCE's Sum COMES TO.
theorem rsum_any (HASH : HashIs) {n : Nat} {f : Nat → Nat} {v : Value} {w : World} (hn : n < 1500000) (hf : ∀ j, f j < 256) (hP : ArgB w v n f) : Calls Tryd.prog 6 #[v] w fun e w' => e = .returned (.agg (ar .u8 32 (shaH f n))) ∧ Below w.heap.size w w' := by
  have hb0 : Below w.heap.size w (w.alloc (.cells #[.int .u8 0, .int .u8 0, .int .u8 0, .int .u8 0, .int .u8 0, .int .u8 0, .int .u8 0, .int .u8 0, .int .u8 0, .int .u8 0, .int .u8 0, .int .u8 0, .int .u8 0, .int .u8 0, .int .u8 0, .int .u8 0, .int .u8 0, .int .u8 0, .int .u8 0, .int .u8 0, .int .u8 0, .int .u8 0, .int .u8 0, .int .u8 0, .int .u8 0, .int .u8 0, .int .u8 0, .int .u8 0, .int .u8 0, .int .u8 0, .int .u8 0, .int .u8 0] 25)) := (Below.refl _ _).alloc (Nat.le_refl _) _
  have H0 := Lib.hid (And.intro hb0 (heap_alloc_new w (.cells #[.int .u8 0, .int .u8 0, .int .u8 0, .int .u8 0, .int .u8 0, .int .u8 0, .int .u8 0, .int .u8 0, .int .u8 0, .int .u8 0, .int .u8 0, .int .u8 0, .int .u8 0, .int .u8 0, .int .u8 0, .int .u8 0, .int .u8 0, .int .u8 0, .int .u8 0, .int .u8 0, .int .u8 0, .int .u8 0, .int .u8 0, .int .u8 0, .int .u8 0, .int .u8 0, .int .u8 0, .int .u8 0, .int .u8 0, .int .u8 0, .int .u8 0, .int .u8 0] 25)))
  have HP := Lib.hid (And.intro hn (And.intro hf (And.intro hP HASH)))
  clear hb0 hn hf hP HASH
  go_enter Tryd.func6, Tryd.ntmps6
  go_wp2_with fail
  refine (table_any _).mono ?_
  rintro e w1 ⟨g, c, rfl, hg1, hg2, hc, hk, hb⟩
  obtain ⟨A, hA⟩ : ∃ A, w1.heap.size = A := ⟨_, rfl⟩
  have HR := Lib.hid (show (w1.alloc (.cells #[.int .u32 0, .int .u32 0, .int .u32 0, .int .u32 0, .int .u32 0, .int .u32 0, .int .u32 0, .int .u32 0] 39)).heap[A]? = some (.cells #[.int .u32 0, .int .u32 0, .int .u32 0, .int .u32 0, .int .u32 0, .int .u32 0, .int .u32 0, .int .u32 0] 39 (0, 0)) from by rw [← hA]; exact heap_alloc_new _ _)
  have HI8 : Hid ((Tryd.prog.info? 39).map (·.size) = some (ar .u32 8 iniH).size) := Lib.hid (by rw [ar_size]; exact info8a)
  have HRA := Lib.hid (show ((w1.alloc (.cells #[.int .u32 0, .int .u32 0, .int .u32 0, .int .u32 0, .int .u32 0, .int .u32 0, .int .u32 0, .int .u32 0] 39)).setRow A (ar .u32 8 iniH)).heap[A]? = some (.cells (ar .u32 8 iniH) 39 (0, 0)) from setRow_heap _ _ _ _ _ _ HR.out)
  have hs1 : w.heap.size < A := by rw [← hA]; exact Nat.lt_of_lt_of_le (by simp) hb.size
  have H1 := Lib.hid (show Below w.heap.size w ((w1.alloc (.cells #[.int .u32 0, .int .u32 0, .int .u32 0, .int .u32 0, .int .u32 0, .int .u32 0, .int .u32 0, .int .u32 0] 39)).setRow A (ar .u32 8 iniH)) ∧ ((w1.alloc (.cells #[.int .u32 0, .int .u32 0, .int .u32 0, .int .u32 0, .int .u32 0, .int .u32 0, .int .u32 0, .int .u32 0] 39)).setRow A (ar .u32 8 iniH)).heap[w.heap.size]? = some (.cells #[.int .u8 0, .int .u8 0, .int .u8 0, .int .u8 0, .int .u8 0, .int .u8 0, .int .u8 0, .int .u8 0, .int .u8 0, .int .u8 0, .int .u8 0, .int .u8 0, .int .u8 0, .int .u8 0, .int .u8 0, .int .u8 0, .int .u8 0, .int .u8 0, .int .u8 0, .int .u8 0, .int .u8 0, .int .u8 0, .int .u8 0, .int .u8 0, .int .u8 0, .int .u8 0, .int .u8 0, .int .u8 0, .int .u8 0, .int .u8 0, .int .u8 0, .int .u8 0] 25 (0, 0)) ∧ g < ((w1.alloc (.cells #[.int .u32 0, .int .u32 0, .int .u32 0, .int .u32 0, .int .u32 0, .int .u32 0, .int .u32 0, .int .u32 0] 39)).setRow A (ar .u32 8 iniH)).heap.size ∧ ∀ j, j < 64 → ((w1.alloc (.cells #[.int .u32 0, .int .u32 0, .int .u32 0, .int .u32 0, .int .u32 0, .int .u32 0, .int .u32 0, .int .u32 0] 39)).setRow A (ar .u32 8 iniH)).cell? ⟨g, j, none⟩ = some (.int .u32 (kT j)) from by
    have hba : Below w.heap.size w (w1.alloc (.cells #[.int .u32 0, .int .u32 0, .int .u32 0, .int .u32 0, .int .u32 0, .int .u32 0, .int .u32 0, .int .u32 0] 39)) := (H0.out.1.trans (hb.mono (by simp))).alloc (by omega) _
    refine ⟨below_setRow hba (by omega) _, (setRow_other _ _ _ _ (by omega)).trans ((heap_alloc_old _ _ (by omega)).trans ((hb.block _ (by simp)).trans H0.out.2)), by rw [setRow_size]; simp; omega, fun j hj => ?_⟩
    refine (World.cell?_of_block (w := w1) (a := ⟨g, j, none⟩) ?_).trans (hk j hj)
    exact (setRow_other _ _ _ _ (by show g ≠ A; omega)).trans (heap_alloc_old _ _ hg2))
  clear hg1 hg2 hc hk hb hs1 H0
  go_wp2_with (first | (refine wpList_store_row rfl 39 _ _ rfl A (ar .u32 8 iniH) rfl rfl 39 _ HR.out HI8.out (by rw [ar_size]; rfl) (ar_one _ _ _) ?_) | (refine wpList_load_row rfl 39 _ rfl A rfl 39 _ (0, 0) _ HRA.out Tryd.underlying39 rfl HI8.out ?_))
  refine (HP.out.2.2.2 n g c f v _ HP.out.1 HP.out.2.1 (HP.out.2.2.1.below H1.out.1) H1.out.2.2).mono ?_
  rintro e w6 ⟨rfl, hb6⟩
  have HB := Lib.hid (show Below w.heap.size w w6 ∧ w6.heap[w.heap.size]? = some (.cells #[.int .u8 0, .int .u8 0, .int .u8 0, .int .u8 0, .int .u8 0, .int .u8 0, .int .u8 0, .int .u8 0, .int .u8 0, .int .u8 0, .int .u8 0, .int .u8 0, .int .u8 0, .int .u8 0, .int .u8 0, .int .u8 0, .int .u8 0, .int .u8 0, .int .u8 0, .int .u8 0, .int .u8 0, .int .u8 0, .int .u8 0, .int .u8 0, .int .u8 0, .int .u8 0, .int .u8 0, .int .u8 0, .int .u8 0, .int .u8 0, .int .u8 0, .int .u8 0] 25 (0, 0)) from ⟨H1.out.1.trans (hb6.mono H1.out.1.size), (hb6.block _ (Array.getElem?_eq_some_iff.1 H1.out.2.1).1).trans H1.out.2.1⟩)
  obtain ⟨y, hy⟩ : ∃ y, shaH f n = y := ⟨_, rfl⟩
  have HE := Lib.hid hy
  rw [hy]
  clear hb6 hy H1 HR HRA hA
  have HI : Hid ((Tryd.prog.info? 25).map (·.size) = some (ar .u8 32 y).size) := Lib.hid (by rw [ar_size]; exact info32s)
  go_wp2_with (refine wpList_store_row rfl 25 _ _ rfl w.heap.size (ar .u8 32 y) rfl rfl 25 _ HB.out.2 HI.out (by rw [ar_size]; rfl) (ar_one _ _ _) ?_)
  refine bodyPost_ret (v := .agg (ar .u8 32 y)) (results_cell_row (p := 2) rfl _ _ w.heap.size 25 _ (0, 0) _ rfl (setRow_heap _ _ _ _ _ _ HB.out.2) Tryd.underlying25 rfl HI.out) rfl ⟨by rw [HE.out], below_setRow HB.out.1 (Nat.le_refl _) _⟩
end Go.Proofs.YtkecehcnoihiiaaDoor
namespace Go.Proofs.YtkecehcnoihiiaaDoor
open Go.RowKit

set_option maxRecDepth 100000 in
set_option maxHeartbeats 8000000 in
-- WHAT Hash COMES TO.
theorem hash_any {n kg kc : Nat} {f : Nat → Nat} {v : Value} {w : World} (hn : n < 1500000) (hf : ∀ j, f j < 256) (hP : ArgB w v n f) (hK : kg < w.heap.size ∧ ∀ j, j < 64 → w.cell? ⟨kg, j, none⟩ = some (.int .u32 (kT j))) :
    Calls Tryd.prog 15 #[v, .slice (some ⟨kg, 0, none⟩) 64 kc, .agg (ar .u32 8 iniH)] w fun e w' => e = .returned (.agg (ar .u8 32 (shaH f n))) ∧ Below w.heap.size w w' := by
  have HP := Lib.hid hP
  obtain ⟨ad, cap, rfl, hc, -, -⟩ := hP
  have HF := Lib.hid (And.intro hf hK); clear hf hK
  obtain ⟨i0, hi, hz0, hz1, hz2⟩ := info_partsB info8
  obtain ⟨L, hL⟩ : ∃ L, sT n = L := ⟨_, rfl⟩
  have hL0 : L % 64 = 0 ∧ n + 9 ≤ L ∧ L < n + 73 := by unfold sT aheadS at hL; omega
  obtain ⟨hL1, hL2, hL3⟩ := hL0
  have HRS := Lib.hid (show shaH f n = sby (hB (spad f n) (L / 64)) from by unfold shaH; rw [hL])
  have HL := Lib.hid hL
  clear hL
  go_enter Tryd.func15, Tryd.ntmps15
  obtain ⟨w0, hw0⟩ : ∃ w0, (w.alloc (.cells (ar .u32 8 iniH) 39)).alloc (.cells #[.int .u8 0, .int .u8 0, .int .u8 0, .int .u8 0, .int .u8 0, .int .u8 0, .int .u8 0, .int .u8 0, .int .u8 0, .int .u8 0, .int .u8 0, .int .u8 0, .int .u8 0, .int .u8 0, .int .u8 0, .int .u8 0, .int .u8 0, .int .u8 0, .int .u8 0, .int .u8 0, .int .u8 0, .int .u8 0, .int .u8 0, .int .u8 0, .int .u8 0, .int .u8 0, .int .u8 0, .int .u8 0, .int .u8 0, .int .u8 0, .int .u8 0, .int .u8 0] 25) = w0 := ⟨_, rfl⟩
  have hb0 : Below w.heap.size w w0 := by rw [← hw0]; go_grown
  have hr0 : w0.heap[w.heap.size]? = some (.cells (ar .u32 8 iniH) 39 (0, 0)) := by rw [← hw0]; exact (heap_alloc_old _ _ (by simp)).trans (heap_alloc_new _ _)
  have hr1 : w0.heap[w.heap.size + 1]? = some (.cells #[.int .u8 0, .int .u8 0, .int .u8 0, .int .u8 0, .int .u8 0, .int .u8 0, .int .u8 0, .int .u8 0, .int .u8 0, .int .u8 0, .int .u8 0, .int .u8 0, .int .u8 0, .int .u8 0, .int .u8 0, .int .u8 0, .int .u8 0, .int .u8 0, .int .u8 0, .int .u8 0, .int .u8 0, .int .u8 0, .int .u8 0, .int .u8 0, .int .u8 0, .int .u8 0, .int .u8 0, .int .u8 0, .int .u8 0, .int .u8 0, .int .u8 0, .int .u8 0] 25 (0, 0)) := by
    rw [← hw0]
    have h := heap_alloc_new (w.alloc (.cells (ar .u32 8 iniH) 39)) (.cells #[.int .u8 0, .int .u8 0, .int .u8 0, .int .u8 0, .int .u8 0, .int .u8 0, .int .u8 0, .int .u8 0, .int .u8 0, .int .u8 0, .int .u8 0, .int .u8 0, .int .u8 0, .int .u8 0, .int .u8 0, .int .u8 0, .int .u8 0, .int .u8 0, .int .u8 0, .int .u8 0, .int .u8 0, .int .u8 0, .int .u8 0, .int .u8 0, .int .u8 0, .int .u8 0, .int .u8 0, .int .u8 0, .int .u8 0, .int .u8 0, .int .u8 0, .int .u8 0] 25)
    simpa using h
  have hs0 : w0.heap.size = w.heap.size + 1 + 1 := by rw [← hw0]; simp
  have H0 := Lib.hid (And.intro hb0 (And.intro hr0 (And.intro hr1 hs0)))
  clear hb0 hr0 hr1
  have hmade := World.ownsRow_made (base := w0.heap.size) (e := 5) (size := 1) w0 #[] 0 (by simp) (by decide) (by simp)
  have ha : Below w0.heap.size w0 (w0.alloc (.cells #[] 5)) := (Below.refl _ _).alloc (Nat.le_refl _) _
  obtain ⟨v', w', hr, hown, hs, hg⟩ := copy_own (k := 0) (g := fun _ => 0) (by simpa [p8] using hmade) ⟨_, _, rfl⟩ ((HP.out.below H0.out.1).below ha) (by omega) (by simp) 22
  rw [Nat.zero_add] at hown
  have hb := ha.grown hg (by simp) (fun j hj => by cases hj; exact Nat.le_refl _)
  have HO : Hid (Own8 w0.heap.size f n v' w' ∧ Below w0.heap.size w0 w') := Lib.hid ⟨by simpa [Own8, p8] using hown, hb⟩
  obtain ⟨gg, cc, hvv⟩ := hs
  rw [Nat.zero_add] at hvv
  subst hvv
  have HR := Lib.hid (show (Builtin.append_ #[22, 22] 22 #[.slice (some ⟨w.heap.size + 1 + 1, 0, none⟩) 0 0, .slice ad n cap]).run Tryd.prog (((w.alloc (.cells (ar .u32 8 iniH) 39)).alloc (.cells #[.int .u8 0, .int .u8 0, .int .u8 0, .int .u8 0, .int .u8 0, .int .u8 0, .int .u8 0, .int .u8 0, .int .u8 0, .int .u8 0, .int .u8 0, .int .u8 0, .int .u8 0, .int .u8 0, .int .u8 0, .int .u8 0, .int .u8 0, .int .u8 0, .int .u8 0, .int .u8 0, .int .u8 0, .int .u8 0, .int .u8 0, .int .u8 0, .int .u8 0, .int .u8 0, .int .u8 0, .int .u8 0, .int .u8 0, .int .u8 0, .int .u8 0, .int .u8 0] 25)).alloc (.cells #[] 5)) = .ok (.slice (some ⟨gg, 0, none⟩) n cc) w' from by rw [hw0, ← hs0]; exact hr)
  clear hw0 hmade ha hr hown hg hb
  have hbs : w.heap.size + 1 + 1 ≤ w'.heap.size := by have h1 := HO.out.2.size; have h2 := H0.out.2.2.2; omega
  obtain ⟨e8, he8⟩ : ∃ e : Nat, 8 * (n : Int) = (e : Int) := ⟨8 * n, by omega⟩
  have he0 : (0 : Int) ≤ e8 := by omega
  have hwn : IntKind.u64.wrap (n : Int) = (n : Int) := by rw [IntKind.wrap_u64]; omega
  have hwe : IntKind.u64.wrap (e8 : Int) = (e8 : Int) := by rw [IntKind.wrap_u64]; omega
  have HLE := Lib.hid (show 8 * n = e8 ∧ n < 1500000 from ⟨by omega, hn⟩)
  go_upto_block 0 with (first | (at_builtin; refine Go.Lib.wpList_append_run _ rfl _ _ 22 22 rfl _ _ rfl rfl _ _ HR.out ?_) | (at_builtin; refine wpList_append_lies _ rfl _ _ 22 rfl w0.heap.size 5 i0 (.int .u8 0) 1 1 Tryd.underlying22 hi hz0 hz1 hz2 rfl (by decide) _ (n) (p8 (f) (n)) rfl (World.ownsRow.alloc HO.out.1 _) ⟨w'.heap.size, 0, none⟩ 1 1 [.int .u8 128] rfl rfl (cell_one_new _ _ _) (by intro u hu; simp at hu; subst hu; rfl) (by omega) (by unfold maxLen; omega) (by omega) (by simp; omega) (w'.heap.size + 1) (by simp) ?_; intro g2 c2 w3 hown3 hgrow hat hlt3; (have hb3 := own_below HO.out.1 HO.out.2 HO.out.2.size hgrow); (rw [p8_snoc (f) (spad f n) (n) 128 (fun j hj => (spad_lo f hj).symm) (by rw [spad_n]; rfl)] at hown3); (have HQ := Lib.hid (And.intro hown3 hb3)); clear hgrow hat hlt3 hown3 hb3 HO))
  clear HR HP hc hwn hwe
  refine hash_b0 (w0 := w0) HLE.out.2 HL.out HQ.out ?_
  intro u33 u34 u35 u36 u37 u38 u39 g1 c q1 w1 hc1 hc2 hc3
  have H1 := Lib.hid hc3
  have HC := Lib.hid hc1
  clear HQ hc3 hc1 hc2
  go_upto_block 2 with fail
  refine hash_b2 (w0 := w0) HLE.out.2 HL.out HC.out HLE.out.1 H1.out ?_
  intro u40 u41 u42 u43 u44 u45 u46 u47 u48 u49 u50 u51 u52 g q wr hc3
  obtain ⟨E, hEe⟩ : ∃ E, spad f n = E := ⟨_, rfl⟩
  have hG := hc3.1.lt g rfl
  have hE : ∀ j, E j < 256 := fun j => by rw [← hEe]; exact spad_lt HF.out.1 n j
  rw [hEe] at HRS
  obtain ⟨N, hN⟩ : ∃ N, L / 64 = N := ⟨_, rfl⟩
  rw [hN] at HRS
  have hU64 : L = 64 * N := by omega
  have H2 := Lib.hid (show CH w g L E (hB E 0) wr from by
    obtain ⟨ho, hb⟩ := hc3
    have h2 := H0.out.2.2.2
    refine ⟨H0.out.1.trans (hb.mono (by omega)), (hb.block _ (by omega)).trans H0.out.2.1, (hb.block _ (by omega)).trans H0.out.2.2.1, fun j hj => ?_, by have := hG.1; omega, hG.2⟩
    rw [← hEe]
    exact (ho.cellAt j (by omega)).trans (p8_at _ _ _ (by omega)))
  have HE := Lib.hid hE
  have HU := Lib.hid (And.intro hU64 (show L < 2000000 by omega))
  have HUQ := Lib.hid (show L ≤ q from by
    obtain ⟨-, h2⟩ := hc3.1
    rcases h2 with ⟨h2, h3⟩ | ⟨g', cap, cur, e1, -, -, e4, -⟩
    · cases h2
    · injection e1 with _ _ e1
      rw [e1]
      omega)
  clear hE hEe hN hU64 hG H1 H0 HL HC HLE hL1 hL2 hL3 hc3 he8 he0 hn hbs hs0 hi hz0 hz1 hz2
  go_upto_block 4 with fail
  refine hash_b4 (w := w) HE.out HU.out.1 HU.out.2 HUQ.out HF.out.2 H2.out (fun _ _ d _ _ h => by cases d <;> exact h) ?_
  intro p11 p12 p13 p14 p15 p16 p17 p18 p19 p20 p21 p53 p54 p55 p56 p57 p58 p59 p60 p61 p62 p63 p64 p65 p66 p67 p68 p69 p70 p71 p72 p73 p74 p75 p76 p77 p78 p79 p80 p81 p82 p83 p84 p85 p86 p87 p88 p89 p90 p91 p92 p93 p94 p95 p96 p97 p98 p99 p100 p101 p102 p103 p104 p105 p106 p107 p108 p109 p110 p111 p112 p113 p114 p115 p116 p117 p118 p119 p120 p121 p122 p123 p124 p125 p126 p127 p128 p129 p130 p131 p132 p133 p134 p135 p136 p137 p138 p139 p140 p141 p142 p143 p144 p145 p146 p147 p148 p149 p150 p151 p152 p153 p154 p155 p156 p157 p158 p159 p160 p161 p162 p163 p164 p165 p166 p167 p168 p169 p170 p171 p172 p173 p174 p175 p176 p177 p178 p179 p180 p181 p182 p183 p184 p185 p186 p187 p188 p189 p190 p191 p192 p193 p194 p195 p196 p197 p198 p199 p200 p201 p202 p203 p204 p205 p206 p207 p208 p209 p210 p211 p212 p213 p214 p215 p216 p217 p218 p219 p220 p221 p222 p223 p224 p225 p226 p227 p228 p229 p230 p231 p232 p233 p234 p235 p236 p237 p238 p239 p240 p241 p242 p243 p244 p245 p246 p247 p248 p249 w4 hc4
  obtain ⟨O, hO⟩ : ∃ O, w4.heap.size = O := ⟨_, rfl⟩
  obtain ⟨h, hh⟩ : ∃ h, hB E N = h := ⟨_, rfl⟩
  rw [hh] at hc4 HRS
  have HRO := Lib.hid (show (w4.alloc (.cells #[.int .u8 0, .int .u8 0, .int .u8 0, .int .u8 0, .int .u8 0, .int .u8 0, .int .u8 0, .int .u8 0, .int .u8 0, .int .u8 0, .int .u8 0, .int .u8 0, .int .u8 0, .int .u8 0, .int .u8 0, .int .u8 0, .int .u8 0, .int .u8 0, .int .u8 0, .int .u8 0, .int .u8 0, .int .u8 0, .int .u8 0, .int .u8 0, .int .u8 0, .int .u8 0, .int .u8 0, .int .u8 0, .int .u8 0, .int .u8 0, .int .u8 0, .int .u8 0] 25)).heap[O]? = some (.cells #[.int .u8 0, .int .u8 0, .int .u8 0, .int .u8 0, .int .u8 0, .int .u8 0, .int .u8 0, .int .u8 0, .int .u8 0, .int .u8 0, .int .u8 0, .int .u8 0, .int .u8 0, .int .u8 0, .int .u8 0, .int .u8 0, .int .u8 0, .int .u8 0, .int .u8 0, .int .u8 0, .int .u8 0, .int .u8 0, .int .u8 0, .int .u8 0, .int .u8 0, .int .u8 0, .int .u8 0, .int .u8 0, .int .u8 0, .int .u8 0, .int .u8 0, .int .u8 0] 25 (0, 0)) from by rw [← hO]; exact heap_alloc_new _ _)
  have H3 := Lib.hid (show CHo w O h (sbD (sby h) 0) ((w4.alloc (.cells #[.int .u8 0, .int .u8 0, .int .u8 0, .int .u8 0, .int .u8 0, .int .u8 0, .int .u8 0, .int .u8 0, .int .u8 0, .int .u8 0, .int .u8 0, .int .u8 0, .int .u8 0, .int .u8 0, .int .u8 0, .int .u8 0, .int .u8 0, .int .u8 0, .int .u8 0, .int .u8 0, .int .u8 0, .int .u8 0, .int .u8 0, .int .u8 0, .int .u8 0, .int .u8 0, .int .u8 0, .int .u8 0, .int .u8 0, .int .u8 0, .int .u8 0, .int .u8 0] 25)).setRow O #[.int .u8 0, .int .u8 0, .int .u8 0, .int .u8 0, .int .u8 0, .int .u8 0, .int .u8 0, .int .u8 0, .int .u8 0, .int .u8 0, .int .u8 0, .int .u8 0, .int .u8 0, .int .u8 0, .int .u8 0, .int .u8 0, .int .u8 0, .int .u8 0, .int .u8 0, .int .u8 0, .int .u8 0, .int .u8 0, .int .u8 0, .int .u8 0, .int .u8 0, .int .u8 0, .int .u8 0, .int .u8 0, .int .u8 0, .int .u8 0, .int .u8 0, .int .u8 0]) from by
    have hb : Below w4.heap.size w4 ((w4.alloc (.cells #[.int .u8 0, .int .u8 0, .int .u8 0, .int .u8 0, .int .u8 0, .int .u8 0, .int .u8 0, .int .u8 0, .int .u8 0, .int .u8 0, .int .u8 0, .int .u8 0, .int .u8 0, .int .u8 0, .int .u8 0, .int .u8 0, .int .u8 0, .int .u8 0, .int .u8 0, .int .u8 0, .int .u8 0, .int .u8 0, .int .u8 0, .int .u8 0, .int .u8 0, .int .u8 0, .int .u8 0, .int .u8 0, .int .u8 0, .int .u8 0, .int .u8 0, .int .u8 0] 25)).setRow O #[.int .u8 0, .int .u8 0, .int .u8 0, .int .u8 0, .int .u8 0, .int .u8 0, .int .u8 0, .int .u8 0, .int .u8 0, .int .u8 0, .int .u8 0, .int .u8 0, .int .u8 0, .int .u8 0, .int .u8 0, .int .u8 0, .int .u8 0, .int .u8 0, .int .u8 0, .int .u8 0, .int .u8 0, .int .u8 0, .int .u8 0, .int .u8 0, .int .u8 0, .int .u8 0, .int .u8 0, .int .u8 0, .int .u8 0, .int .u8 0, .int .u8 0, .int .u8 0]) := below_setRow ((Below.refl _ _).alloc (Nat.le_refl _) _) (by omega) _
    have hc := hc4.below hb
    exact ⟨hc.old, hc.r0, hc.r1, by rw [sbD_0]; exact setRow_heap _ _ _ _ _ _ HRO.out, by rw [← hO]; exact Nat.lt_trans hc4.hg.1 hc4.hg.2⟩)
  have HIZ : Hid ((Tryd.prog.info? 25).map (·.size) = some (#[.int .u8 0, .int .u8 0, .int .u8 0, .int .u8 0, .int .u8 0, .int .u8 0, .int .u8 0, .int .u8 0, .int .u8 0, .int .u8 0, .int .u8 0, .int .u8 0, .int .u8 0, .int .u8 0, .int .u8 0, .int .u8 0, .int .u8 0, .int .u8 0, .int .u8 0, .int .u8 0, .int .u8 0, .int .u8 0, .int .u8 0, .int .u8 0, .int .u8 0, .int .u8 0, .int .u8 0, .int .u8 0, .int .u8 0, .int .u8 0, .int .u8 0, .int .u8 0] : Array Value).size) := Lib.hid info32s
  have HI : ∀ f, Hid ((Tryd.prog.info? 25).map (·.size) = some (ar .u8 32 f).size) := fun f => Lib.hid (by rw [ar_size]; exact info32s)
  clear hc4 H2 HE HU HUQ hh
  go_upto_block 14 with (first | (refine wpList_that (.build 25 #[]) rfl (w' := w4) rfl (.agg #[.int .u8 0, .int .u8 0, .int .u8 0, .int .u8 0, .int .u8 0, .int .u8 0, .int .u8 0, .int .u8 0, .int .u8 0, .int .u8 0, .int .u8 0, .int .u8 0, .int .u8 0, .int .u8 0, .int .u8 0, .int .u8 0, .int .u8 0, .int .u8 0, .int .u8 0, .int .u8 0, .int .u8 0, .int .u8 0, .int .u8 0, .int .u8 0, .int .u8 0, .int .u8 0, .int .u8 0, .int .u8 0, .int .u8 0, .int .u8 0, .int .u8 0, .int .u8 0]) (by kernel_rfl) ?_) | (refine wpList_store_row rfl 25 _ _ rfl O #[.int .u8 0, .int .u8 0, .int .u8 0, .int .u8 0, .int .u8 0, .int .u8 0, .int .u8 0, .int .u8 0, .int .u8 0, .int .u8 0, .int .u8 0, .int .u8 0, .int .u8 0, .int .u8 0, .int .u8 0, .int .u8 0, .int .u8 0, .int .u8 0, .int .u8 0, .int .u8 0, .int .u8 0, .int .u8 0, .int .u8 0, .int .u8 0, .int .u8 0, .int .u8 0, .int .u8 0, .int .u8 0, .int .u8 0, .int .u8 0, .int .u8 0, .int .u8 0] rfl rfl 25 _ HRO.out HIZ.out rfl (by kernel_rfl) ?_))
  try rw [hO]
  refine hash_b14 (w := w) H3.out ?_
  intro v251 v252 v253 v254 v255 v256 v257 v258 v259 v260 v261 v262 v263 v264 v265 v266 v267 w5 hc5
  have hrO := hc5.rO
  rw [sbD_32] at hrO
  obtain ⟨y, hy⟩ : ∃ y, sby h = y := ⟨_, rfl⟩
  rw [hy] at hrO HRS
  have HB := Lib.hid (And.intro hc5.old (And.intro hrO hc5.r1))
  clear hrO hc5 H3 hO hy HRO HIZ
  go_wp2_with (first | (refine wpList_load_row rfl 25 _ rfl O rfl 25 _ (0, 0) _ HB.out.2.1 Tryd.underlying25 rfl (HI y).out ?_) | (refine wpList_store_row rfl 25 _ _ rfl (w.heap.size + 1) (ar .u8 32 y) rfl rfl 25 _ HB.out.2.2 (HI y).out (by rw [ar_size]; rfl) (ar_one _ _ _) ?_))
  refine bodyPost_ret (v := .agg (ar .u8 32 y)) (results_cell_row (p := 6) rfl _ _ (w.heap.size + 1) 25 _ (0, 0) _ rfl (setRow_heap _ _ _ _ _ _ HB.out.2.2) Tryd.underlying25 rfl (HI y).out) rfl ⟨by rw [HRS.out], below_setRow HB.out.1 (by omega) _⟩
theorem hash_is : HashIs := fun _ _ _ _ _ _ hn hf hP hK => hash_any hn hf hP hK
end Go.Proofs.YtkecehcnoihiiaaDoor
namespace Go.Proofs.YtkecehcnoihiiaaDoor
open Go.RowKit

def abcF (j : Nat) : Nat := [97, 98, 99].getD j 0
def abcG (j : Nat) : Nat := spad abcF 3 (64 * 0 + j)
theorem abw0 : sw abcG 0 = 1633837952 := by rw [sw_lo _ (by decide)]; decide +kernel
theorem abw1 : sw abcG 1 = 0 := by rw [sw_lo _ (by decide)]; decide +kernel
theorem abw2 : sw abcG 2 = 0 := by rw [sw_lo _ (by decide)]; decide +kernel
theorem abw3 : sw abcG 3 = 0 := by rw [sw_lo _ (by decide)]; decide +kernel
theorem abw4 : sw abcG 4 = 0 := by rw [sw_lo _ (by decide)]; decide +kernel
theorem abw5 : sw abcG 5 = 0 := by rw [sw_lo _ (by decide)]; decide +kernel
theorem abw6 : sw abcG 6 = 0 := by rw [sw_lo _ (by decide)]; decide +kernel
theorem abw7 : sw abcG 7 = 0 := by rw [sw_lo _ (by decide)]; decide +kernel
theorem abw8 : sw abcG 8 = 0 := by rw [sw_lo _ (by decide)]; decide +kernel
theorem abw9 : sw abcG 9 = 0 := by rw [sw_lo _ (by decide)]; decide +kernel
theorem abw10 : sw abcG 10 = 0 := by rw [sw_lo _ (by decide)]; decide +kernel
theorem abw11 : sw abcG 11 = 0 := by rw [sw_lo _ (by decide)]; decide +kernel
theorem abw12 : sw abcG 12 = 0 := by rw [sw_lo _ (by decide)]; decide +kernel
theorem abw13 : sw abcG 13 = 0 := by rw [sw_lo _ (by decide)]; decide +kernel
theorem abw14 : sw abcG 14 = 0 := by rw [sw_lo _ (by decide)]; decide +kernel
theorem abw15 : sw abcG 15 = 24 := by rw [sw_lo _ (by decide)]; decide +kernel
theorem abw16 : sw abcG 16 = 1633837952 := by rw [sw_hi _ (by decide), abw14, abw9, abw1, abw0]; decide +kernel
theorem abw17 : sw abcG 17 = 983040 := by rw [sw_hi _ (by decide), abw15, abw10, abw2, abw1]; decide +kernel
theorem abw18 : sw abcG 18 = 2108187653 := by rw [sw_hi _ (by decide), abw16, abw11, abw3, abw2]; decide +kernel
theorem abw19 : sw abcG 19 = 1610613702 := by rw [sw_hi _ (by decide), abw17, abw12, abw4, abw3]; decide +kernel
theorem abw20 : sw abcG 20 = 1050508152 := by rw [sw_hi _ (by decide), abw18, abw13, abw5, abw4]; decide +kernel
theorem abw21 : sw abcG 21 = 25426944 := by rw [sw_hi _ (by decide), abw19, abw14, abw6, abw5]; decide +kernel
theorem abw22 : sw abcG 22 = 316456923 := by rw [sw_hi _ (by decide), abw20, abw15, abw7, abw6]; decide +kernel
theorem abw23 : sw abcG 23 = 3806512014 := by rw [sw_hi _ (by decide), abw21, abw16, abw8, abw7]; decide +kernel
theorem abw24 : sw abcG 24 = 3357629466 := by rw [sw_hi _ (by decide), abw22, abw17, abw9, abw8]; decide +kernel
theorem abw25 : sw abcG 25 = 3073800610 := by rw [sw_hi _ (by decide), abw23, abw18, abw10, abw9]; decide +kernel
theorem abw26 : sw abcG 26 = 3854317833 := by rw [sw_hi _ (by decide), abw24, abw19, abw11, abw10]; decide +kernel
theorem abw27 : sw abcG 27 = 845560923 := by rw [sw_hi _ (by decide), abw25, abw20, abw12, abw11]; decide +kernel
theorem abw28 : sw abcG 28 = 2636160359 := by rw [sw_hi _ (by decide), abw26, abw21, abw13, abw12]; decide +kernel
theorem abw29 : sw abcG 29 = 3968280267 := by rw [sw_hi _ (by decide), abw27, abw22, abw14, abw13]; decide +kernel
theorem abw30 : sw abcG 30 = 1881225380 := by rw [sw_hi _ (by decide), abw28, abw23, abw15, abw14]; decide +kernel
theorem abw31 : sw abcG 31 = 3552024379 := by rw [sw_hi _ (by decide), abw29, abw24, abw16, abw15]; decide +kernel
theorem abw32 : sw abcG 32 = 2482346367 := by rw [sw_hi _ (by decide), abw30, abw25, abw17, abw16]; decide +kernel
theorem abw33 : sw abcG 33 = 996719219 := by rw [sw_hi _ (by decide), abw31, abw26, abw18, abw17]; decide +kernel
theorem abw34 : sw abcG 34 = 2952069057 := by rw [sw_hi _ (by decide), abw32, abw27, abw19, abw18]; decide +kernel
theorem abw35 : sw abcG 35 = 4043988066 := by rw [sw_hi _ (by decide), abw33, abw28, abw20, abw19]; decide +kernel
theorem abw36 : sw abcG 36 = 176896406 := by rw [sw_hi _ (by decide), abw34, abw29, abw21, abw20]; decide +kernel
theorem abw37 : sw abcG 37 = 1924104970 := by rw [sw_hi _ (by decide), abw35, abw30, abw22, abw21]; decide +kernel
theorem abw38 : sw abcG 38 = 2483675966 := by rw [sw_hi _ (by decide), abw36, abw31, abw23, abw22]; decide +kernel
theorem abw39 : sw abcG 39 = 610538786 := by rw [sw_hi _ (by decide), abw37, abw32, abw24, abw23]; decide +kernel
theorem abw40 : sw abcG 40 = 2672279444 := by rw [sw_hi _ (by decide), abw38, abw33, abw25, abw24]; decide +kernel
theorem abw41 : sw abcG 41 = 4037431130 := by rw [sw_hi _ (by decide), abw39, abw34, abw26, abw25]; decide +kernel
theorem abw42 : sw abcG 42 = 1042573945 := by rw [sw_hi _ (by decide), abw40, abw35, abw27, abw26]; decide +kernel
theorem abw43 : sw abcG 43 = 657669027 := by rw [sw_hi _ (by decide), abw41, abw36, abw28, abw27]; decide +kernel
theorem abw44 : sw abcG 44 = 206005234 := by rw [sw_hi _ (by decide), abw42, abw37, abw29, abw28]; decide +kernel
theorem abw45 : sw abcG 45 = 2215296807 := by rw [sw_hi _ (by decide), abw43, abw38, abw30, abw29]; decide +kernel
theorem abw46 : sw abcG 46 = 2049510749 := by rw [sw_hi _ (by decide), abw44, abw39, abw31, abw30]; decide +kernel
theorem abw47 : sw abcG 47 = 106709978 := by rw [sw_hi _ (by decide), abw45, abw40, abw32, abw31]; decide +kernel
theorem abw48 : sw abcG 48 = 4215179723 := by rw [sw_hi _ (by decide), abw46, abw41, abw33, abw32]; decide +kernel
theorem abw49 : sw abcG 49 = 3430291419 := by rw [sw_hi _ (by decide), abw47, abw42, abw34, abw33]; decide +kernel
theorem abw50 : sw abcG 50 = 3118885940 := by rw [sw_hi _ (by decide), abw48, abw43, abw35, abw34]; decide +kernel
theorem abw51 : sw abcG 51 = 2845390439 := by rw [sw_hi _ (by decide), abw49, abw44, abw36, abw35]; decide +kernel
theorem abw52 : sw abcG 52 = 2226839261 := by rw [sw_hi _ (by decide), abw50, abw45, abw37, abw36]; decide +kernel
theorem abw53 : sw abcG 53 = 3256115900 := by rw [sw_hi _ (by decide), abw51, abw46, abw38, abw37]; decide +kernel
theorem abw54 : sw abcG 54 = 344409900 := by rw [sw_hi _ (by decide), abw52, abw47, abw39, abw38]; decide +kernel
theorem abw55 : sw abcG 55 = 2987358873 := by rw [sw_hi _ (by decide), abw53, abw48, abw40, abw39]; decide +kernel
theorem abw56 : sw abcG 56 = 4015503821 := by rw [sw_hi _ (by decide), abw54, abw49, abw41, abw40]; decide +kernel
theorem abw57 : sw abcG 57 = 3957764664 := by rw [sw_hi _ (by decide), abw55, abw50, abw42, abw41]; decide +kernel
theorem abw58 : sw abcG 58 = 2682456414 := by rw [sw_hi _ (by decide), abw56, abw51, abw43, abw42]; decide +kernel
theorem abw59 : sw abcG 59 = 2025622859 := by rw [sw_hi _ (by decide), abw57, abw52, abw44, abw43]; decide +kernel
theorem abw60 : sw abcG 60 = 2755645205 := by rw [sw_hi _ (by decide), abw58, abw53, abw45, abw44]; decide +kernel
theorem abw61 : sw abcG 61 = 1720397816 := by rw [sw_hi _ (by decide), abw59, abw54, abw46, abw45]; decide +kernel
theorem abw62 : sw abcG 62 = 4004225740 := by rw [sw_hi _ (by decide), abw60, abw55, abw47, abw46]; decide +kernel
theorem abw63 : sw abcG 63 = 313650667 := by rw [sw_hi _ (by decide), abw61, abw56, abw48, abw47]; decide +kernel
/-- A round over literals. -/
theorem rd_lit {h x : Nat → Int} {n : Nat} {a0 a1 a2 a3 a4 a5 a6 a7 y b0 b4 : Int} (e : rds h x n 0 = a0 ∧ rds h x n 1 = a1 ∧ rds h x n 2 = a2 ∧ rds h x n 3 = a3 ∧ rds h x n 4 = a4 ∧ rds h x n 5 = a5 ∧ rds h x n 6 = a6 ∧ rds h x n 7 = a7) (hx : x n = y)
    (h0 : stp (kT n) y (fun j => [a0, a1, a2, a3, a4, a5, a6, a7].getD j 0) 0 = b0) (h4 : stp (kT n) y (fun j => [a0, a1, a2, a3, a4, a5, a6, a7].getD j 0) 4 = b4) :
    rds h x (n + 1) 0 = b0 ∧ rds h x (n + 1) 1 = a0 ∧ rds h x (n + 1) 2 = a1 ∧ rds h x (n + 1) 3 = a2 ∧ rds h x (n + 1) 4 = b4 ∧ rds h x (n + 1) 5 = a4 ∧ rds h x (n + 1) 6 = a5 ∧ rds h x (n + 1) 7 = a6 := by
  obtain ⟨e0, e1, e2, e3, e4, e5, e6, e7⟩ := e
  refine ⟨?_, e0, e1, e2, ?_, e4, e5, e6⟩
  · rw [← h0, ← hx]
    show stp (kT n) (x n) (rds h x n) 0 = _
    unfold stp rT1 rT2
    rw [if_pos rfl, if_pos rfl, e0, e1, e2, e4, e5, e6, e7]
    rfl
  · rw [← h4, ← hx]
    show stp (kT n) (x n) (rds h x n) 4 = _
    unfold stp rT1
    rw [if_neg (by decide), if_pos rfl, if_neg (by decide), if_pos rfl, e3, e4, e5, e6, e7]
    rfl
theorem abr0 : rds iniH (sw abcG) 0 0 = 1779033703 ∧ rds iniH (sw abcG) 0 1 = 3144134277 ∧ rds iniH (sw abcG) 0 2 = 1013904242 ∧ rds iniH (sw abcG) 0 3 = 2773480762 ∧ rds iniH (sw abcG) 0 4 = 1359893119 ∧ rds iniH (sw abcG) 0 5 = 2600822924 ∧ rds iniH (sw abcG) 0 6 = 528734635 ∧ rds iniH (sw abcG) 0 7 = 1541459225 := ⟨rfl, rfl, rfl, rfl, rfl, rfl, rfl, rfl⟩
theorem abr1 : rds iniH (sw abcG) 1 0 = 1567288269 ∧ rds iniH (sw abcG) 1 1 = 1779033703 ∧ rds iniH (sw abcG) 1 2 = 3144134277 ∧ rds iniH (sw abcG) 1 3 = 1013904242 ∧ rds iniH (sw abcG) 1 4 = 4197074466 ∧ rds iniH (sw abcG) 1 5 = 1359893119 ∧ rds iniH (sw abcG) 1 6 = 2600822924 ∧ rds iniH (sw abcG) 1 7 = 528734635 := rd_lit abr0 abw0 (by decide +kernel) (by decide +kernel)
theorem abr2 : rds iniH (sw abcG) 2 0 = 1516951981 ∧ rds iniH (sw abcG) 2 1 = 1567288269 ∧ rds iniH (sw abcG) 2 2 = 1779033703 ∧ rds iniH (sw abcG) 2 3 = 3144134277 ∧ rds iniH (sw abcG) 2 4 = 2026797449 ∧ rds iniH (sw abcG) 2 5 = 4197074466 ∧ rds iniH (sw abcG) 2 6 = 1359893119 ∧ rds iniH (sw abcG) 2 7 = 2600822924 := rd_lit abr1 abw1 (by decide +kernel) (by decide +kernel)
theorem abr3 : rds iniH (sw abcG) 3 0 = 3368241063 ∧ rds iniH (sw abcG) 3 1 = 1516951981 ∧ rds iniH (sw abcG) 3 2 = 1567288269 ∧ rds iniH (sw abcG) 3 3 = 1779033703 ∧ rds iniH (sw abcG) 3 4 = 4180228587 ∧ rds iniH (sw abcG) 3 5 = 2026797449 ∧ rds iniH (sw abcG) 3 6 = 4197074466 ∧ rds iniH (sw abcG) 3 7 = 1359893119 := rd_lit abr2 abw2 (by decide +kernel) (by decide +kernel)
theorem abr4 : rds iniH (sw abcG) 4 0 = 3578852966 ∧ rds iniH (sw abcG) 4 1 = 3368241063 ∧ rds iniH (sw abcG) 4 2 = 1516951981 ∧ rds iniH (sw abcG) 4 3 = 1567288269 ∧ rds iniH (sw abcG) 4 4 = 618661968 ∧ rds iniH (sw abcG) 4 5 = 4180228587 ∧ rds iniH (sw abcG) 4 6 = 2026797449 ∧ rds iniH (sw abcG) 4 7 = 4197074466 := rd_lit abr3 abw3 (by decide +kernel) (by decide +kernel)
theorem abr5 : rds iniH (sw abcG) 5 0 = 71342698 ∧ rds iniH (sw abcG) 5 1 = 3578852966 ∧ rds iniH (sw abcG) 5 2 = 3368241063 ∧ rds iniH (sw abcG) 5 3 = 1516951981 ∧ rds iniH (sw abcG) 5 4 = 1135452741 ∧ rds iniH (sw abcG) 5 5 = 618661968 ∧ rds iniH (sw abcG) 5 6 = 4180228587 ∧ rds iniH (sw abcG) 5 7 = 2026797449 := rd_lit abr4 abw4 (by decide +kernel) (by decide +kernel)
theorem abr6 : rds iniH (sw abcG) 6 0 = 725748213 ∧ rds iniH (sw abcG) 6 1 = 71342698 ∧ rds iniH (sw abcG) 6 2 = 3578852966 ∧ rds iniH (sw abcG) 6 3 = 3368241063 ∧ rds iniH (sw abcG) 6 4 = 1900175533 ∧ rds iniH (sw abcG) 6 5 = 1135452741 ∧ rds iniH (sw abcG) 6 6 = 618661968 ∧ rds iniH (sw abcG) 6 7 = 4180228587 := rd_lit abr5 abw5 (by decide +kernel) (by decide +kernel)
theorem abr7 : rds iniH (sw abcG) 7 0 = 3842179968 ∧ rds iniH (sw abcG) 7 1 = 725748213 ∧ rds iniH (sw abcG) 7 2 = 71342698 ∧ rds iniH (sw abcG) 7 3 = 3578852966 ∧ rds iniH (sw abcG) 7 4 = 2603066369 ∧ rds iniH (sw abcG) 7 5 = 1900175533 ∧ rds iniH (sw abcG) 7 6 = 1135452741 ∧ rds iniH (sw abcG) 7 7 = 618661968 := rd_lit abr6 abw6 (by decide +kernel) (by decide +kernel)
theorem abr8 : rds iniH (sw abcG) 8 0 = 2241887071 ∧ rds iniH (sw abcG) 8 1 = 3842179968 ∧ rds iniH (sw abcG) 8 2 = 725748213 ∧ rds iniH (sw abcG) 8 3 = 71342698 ∧ rds iniH (sw abcG) 8 4 = 207977081 ∧ rds iniH (sw abcG) 8 5 = 2603066369 ∧ rds iniH (sw abcG) 8 6 = 1900175533 ∧ rds iniH (sw abcG) 8 7 = 1135452741 := rd_lit abr7 abw7 (by decide +kernel) (by decide +kernel)
theorem abr9 : rds iniH (sw abcG) 9 0 = 2382687417 ∧ rds iniH (sw abcG) 9 1 = 2241887071 ∧ rds iniH (sw abcG) 9 2 = 3842179968 ∧ rds iniH (sw abcG) 9 3 = 725748213 ∧ rds iniH (sw abcG) 9 4 = 852110732 ∧ rds iniH (sw abcG) 9 5 = 207977081 ∧ rds iniH (sw abcG) 9 6 = 2603066369 ∧ rds iniH (sw abcG) 9 7 = 1900175533 := rd_lit abr8 abw8 (by decide +kernel) (by decide +kernel)
theorem abr10 : rds iniH (sw abcG) 10 0 = 2357671019 ∧ rds iniH (sw abcG) 10 1 = 2382687417 ∧ rds iniH (sw abcG) 10 2 = 2241887071 ∧ rds iniH (sw abcG) 10 3 = 3842179968 ∧ rds iniH (sw abcG) 10 4 = 482944406 ∧ rds iniH (sw abcG) 10 5 = 852110732 ∧ rds iniH (sw abcG) 10 6 = 207977081 ∧ rds iniH (sw abcG) 10 7 = 2603066369 := rd_lit abr9 abw9 (by decide +kernel) (by decide +kernel)
theorem abr11 : rds iniH (sw abcG) 11 0 = 1201185780 ∧ rds iniH (sw abcG) 11 1 = 2357671019 ∧ rds iniH (sw abcG) 11 2 = 2382687417 ∧ rds iniH (sw abcG) 11 3 = 2241887071 ∧ rds iniH (sw abcG) 11 4 = 1131095016 ∧ rds iniH (sw abcG) 11 5 = 482944406 ∧ rds iniH (sw abcG) 11 6 = 852110732 ∧ rds iniH (sw abcG) 11 7 = 207977081 := rd_lit abr10 abw10 (by decide +kernel) (by decide +kernel)
theorem abr12 : rds iniH (sw abcG) 12 0 = 4146054569 ∧ rds iniH (sw abcG) 12 1 = 1201185780 ∧ rds iniH (sw abcG) 12 2 = 2357671019 ∧ rds iniH (sw abcG) 12 3 = 2382687417 ∧ rds iniH (sw abcG) 12 4 = 2171590377 ∧ rds iniH (sw abcG) 12 5 = 1131095016 ∧ rds iniH (sw abcG) 12 6 = 482944406 ∧ rds iniH (sw abcG) 12 7 = 852110732 := rd_lit abr11 abw11 (by decide +kernel) (by decide +kernel)
theorem abr13 : rds iniH (sw abcG) 13 0 = 2274437520 ∧ rds iniH (sw abcG) 13 1 = 4146054569 ∧ rds iniH (sw abcG) 13 2 = 1201185780 ∧ rds iniH (sw abcG) 13 3 = 2357671019 ∧ rds iniH (sw abcG) 13 4 = 509051416 ∧ rds iniH (sw abcG) 13 5 = 2171590377 ∧ rds iniH (sw abcG) 13 6 = 1131095016 ∧ rds iniH (sw abcG) 13 7 = 482944406 := rd_lit abr12 abw12 (by decide +kernel) (by decide +kernel)
theorem abr14 : rds iniH (sw abcG) 14 0 = 3643992854 ∧ rds iniH (sw abcG) 14 1 = 2274437520 ∧ rds iniH (sw abcG) 14 2 = 4146054569 ∧ rds iniH (sw abcG) 14 3 = 1201185780 ∧ rds iniH (sw abcG) 14 4 = 1952073950 ∧ rds iniH (sw abcG) 14 5 = 509051416 ∧ rds iniH (sw abcG) 14 6 = 2171590377 ∧ rds iniH (sw abcG) 14 7 = 1131095016 := rd_lit abr13 abw13 (by decide +kernel) (by decide +kernel)
theorem abr15 : rds iniH (sw abcG) 15 0 = 3227803614 ∧ rds iniH (sw abcG) 15 1 = 3643992854 ∧ rds iniH (sw abcG) 15 2 = 2274437520 ∧ rds iniH (sw abcG) 15 3 = 4146054569 ∧ rds iniH (sw abcG) 15 4 = 194179596 ∧ rds iniH (sw abcG) 15 5 = 1952073950 ∧ rds iniH (sw abcG) 15 6 = 509051416 ∧ rds iniH (sw abcG) 15 7 = 2171590377 := rd_lit abr14 abw14 (by decide +kernel) (by decide +kernel)
theorem abr16 : rds iniH (sw abcG) 16 0 = 2969183118 ∧ rds iniH (sw abcG) 16 1 = 3227803614 ∧ rds iniH (sw abcG) 16 2 = 3643992854 ∧ rds iniH (sw abcG) 16 3 = 2274437520 ∧ rds iniH (sw abcG) 16 4 = 123276749 ∧ rds iniH (sw abcG) 16 5 = 194179596 ∧ rds iniH (sw abcG) 16 6 = 1952073950 ∧ rds iniH (sw abcG) 16 7 = 509051416 := rd_lit abr15 abw15 (by decide +kernel) (by decide +kernel)
theorem abr17 : rds iniH (sw abcG) 17 0 = 567974555 ∧ rds iniH (sw abcG) 17 1 = 2969183118 ∧ rds iniH (sw abcG) 17 2 = 3227803614 ∧ rds iniH (sw abcG) 17 3 = 3643992854 ∧ rds iniH (sw abcG) 17 4 = 2150900380 ∧ rds iniH (sw abcG) 17 5 = 123276749 ∧ rds iniH (sw abcG) 17 6 = 194179596 ∧ rds iniH (sw abcG) 17 7 = 1952073950 := rd_lit abr16 abw16 (by decide +kernel) (by decide +kernel)
theorem abr18 : rds iniH (sw abcG) 18 0 = 3271285201 ∧ rds iniH (sw abcG) 18 1 = 567974555 ∧ rds iniH (sw abcG) 18 2 = 2969183118 ∧ rds iniH (sw abcG) 18 3 = 3227803614 ∧ rds iniH (sw abcG) 18 4 = 2221859924 ∧ rds iniH (sw abcG) 18 5 = 2150900380 ∧ rds iniH (sw abcG) 18 6 = 123276749 ∧ rds iniH (sw abcG) 18 7 = 194179596 := rd_lit abr17 abw17 (by decide +kernel) (by decide +kernel)
theorem abr19 : rds iniH (sw abcG) 19 0 = 4269243327 ∧ rds iniH (sw abcG) 19 1 = 3271285201 ∧ rds iniH (sw abcG) 19 2 = 567974555 ∧ rds iniH (sw abcG) 19 3 = 2969183118 ∧ rds iniH (sw abcG) 19 4 = 3431569761 ∧ rds iniH (sw abcG) 19 5 = 2221859924 ∧ rds iniH (sw abcG) 19 6 = 2150900380 ∧ rds iniH (sw abcG) 19 7 = 123276749 := rd_lit abr18 abw18 (by decide +kernel) (by decide +kernel)
theorem abr20 : rds iniH (sw abcG) 20 0 = 3790736435 ∧ rds iniH (sw abcG) 20 1 = 4269243327 ∧ rds iniH (sw abcG) 20 2 = 3271285201 ∧ rds iniH (sw abcG) 20 3 = 567974555 ∧ rds iniH (sw abcG) 20 4 = 2959311225 ∧ rds iniH (sw abcG) 20 5 = 3431569761 ∧ rds iniH (sw abcG) 20 6 = 2221859924 ∧ rds iniH (sw abcG) 20 7 = 2150900380 := rd_lit abr19 abw19 (by decide +kernel) (by decide +kernel)
theorem abr21 : rds iniH (sw abcG) 21 0 = 2647034723 ∧ rds iniH (sw abcG) 21 1 = 3790736435 ∧ rds iniH (sw abcG) 21 2 = 4269243327 ∧ rds iniH (sw abcG) 21 3 = 3271285201 ∧ rds iniH (sw abcG) 21 4 = 2329577776 ∧ rds iniH (sw abcG) 21 5 = 2959311225 ∧ rds iniH (sw abcG) 21 6 = 3431569761 ∧ rds iniH (sw abcG) 21 7 = 2221859924 := rd_lit abr20 abw20 (by decide +kernel) (by decide +kernel)
theorem abr22 : rds iniH (sw abcG) 22 0 = 3261099373 ∧ rds iniH (sw abcG) 22 1 = 2647034723 ∧ rds iniH (sw abcG) 22 2 = 3790736435 ∧ rds iniH (sw abcG) 22 3 = 4269243327 ∧ rds iniH (sw abcG) 22 4 = 3777329520 ∧ rds iniH (sw abcG) 22 5 = 2329577776 ∧ rds iniH (sw abcG) 22 6 = 2959311225 ∧ rds iniH (sw abcG) 22 7 = 3431569761 := rd_lit abr21 abw21 (by decide +kernel) (by decide +kernel)
theorem abr23 : rds iniH (sw abcG) 23 0 = 2812502591 ∧ rds iniH (sw abcG) 23 1 = 3261099373 ∧ rds iniH (sw abcG) 23 2 = 2647034723 ∧ rds iniH (sw abcG) 23 3 = 3790736435 ∧ rds iniH (sw abcG) 23 4 = 1240797514 ∧ rds iniH (sw abcG) 23 5 = 3777329520 ∧ rds iniH (sw abcG) 23 6 = 2329577776 ∧ rds iniH (sw abcG) 23 7 = 2959311225 := rd_lit abr22 abw22 (by decide +kernel) (by decide +kernel)
theorem abr24 : rds iniH (sw abcG) 24 0 = 3319086477 ∧ rds iniH (sw abcG) 24 1 = 2812502591 ∧ rds iniH (sw abcG) 24 2 = 3261099373 ∧ rds iniH (sw abcG) 24 3 = 2647034723 ∧ rds iniH (sw abcG) 24 4 = 2856829767 ∧ rds iniH (sw abcG) 24 5 = 1240797514 ∧ rds iniH (sw abcG) 24 6 = 3777329520 ∧ rds iniH (sw abcG) 24 7 = 2329577776 := rd_lit abr23 abw23 (by decide +kernel) (by decide +kernel)
theorem abr25 : rds iniH (sw abcG) 25 0 = 472655928 ∧ rds iniH (sw abcG) 25 1 = 3319086477 ∧ rds iniH (sw abcG) 25 2 = 2812502591 ∧ rds iniH (sw abcG) 25 3 = 3261099373 ∧ rds iniH (sw abcG) 25 4 = 673443729 ∧ rds iniH (sw abcG) 25 5 = 2856829767 ∧ rds iniH (sw abcG) 25 6 = 1240797514 ∧ rds iniH (sw abcG) 25 7 = 3777329520 := rd_lit abr24 abw24 (by decide +kernel) (by decide +kernel)
theorem abr26 : rds iniH (sw abcG) 26 0 = 3454534525 ∧ rds iniH (sw abcG) 26 1 = 472655928 ∧ rds iniH (sw abcG) 26 2 = 3319086477 ∧ rds iniH (sw abcG) 26 3 = 2812502591 ∧ rds iniH (sw abcG) 26 4 = 339230094 ∧ rds iniH (sw abcG) 26 5 = 673443729 ∧ rds iniH (sw abcG) 26 6 = 2856829767 ∧ rds iniH (sw abcG) 26 7 = 1240797514 := rd_lit abr25 abw25 (by decide +kernel) (by decide +kernel)
theorem abr27 : rds iniH (sw abcG) 27 0 = 3056518332 ∧ rds iniH (sw abcG) 27 1 = 3454534525 ∧ rds iniH (sw abcG) 27 2 = 472655928 ∧ rds iniH (sw abcG) 27 3 = 3319086477 ∧ rds iniH (sw abcG) 27 4 = 3343672598 ∧ rds iniH (sw abcG) 27 5 = 339230094 ∧ rds iniH (sw abcG) 27 6 = 673443729 ∧ rds iniH (sw abcG) 27 7 = 2856829767 := rd_lit abr26 abw26 (by decide +kernel) (by decide +kernel)
theorem abr28 : rds iniH (sw abcG) 28 0 = 2010346792 ∧ rds iniH (sw abcG) 28 1 = 3056518332 ∧ rds iniH (sw abcG) 28 2 = 3454534525 ∧ rds iniH (sw abcG) 28 3 = 472655928 ∧ rds iniH (sw abcG) 28 4 = 3992961016 ∧ rds iniH (sw abcG) 28 5 = 3343672598 ∧ rds iniH (sw abcG) 28 6 = 339230094 ∧ rds iniH (sw abcG) 28 7 = 673443729 := rd_lit abr27 abw27 (by decide +kernel) (by decide +kernel)
theorem abr29 : rds iniH (sw abcG) 29 0 = 909411017 ∧ rds iniH (sw abcG) 29 1 = 2010346792 ∧ rds iniH (sw abcG) 29 2 = 3056518332 ∧ rds iniH (sw abcG) 29 3 = 3454534525 ∧ rds iniH (sw abcG) 29 4 = 1628611511 ∧ rds iniH (sw abcG) 29 5 = 3992961016 ∧ rds iniH (sw abcG) 29 6 = 3343672598 ∧ rds iniH (sw abcG) 29 7 = 339230094 := rd_lit abr28 abw28 (by decide +kernel) (by decide +kernel)
theorem abr30 : rds iniH (sw abcG) 30 0 = 2684750640 ∧ rds iniH (sw abcG) 30 1 = 909411017 ∧ rds iniH (sw abcG) 30 2 = 2010346792 ∧ rds iniH (sw abcG) 30 3 = 3056518332 ∧ rds iniH (sw abcG) 30 4 = 2917635127 ∧ rds iniH (sw abcG) 30 5 = 1628611511 ∧ rds iniH (sw abcG) 30 6 = 3992961016 ∧ rds iniH (sw abcG) 30 7 = 3343672598 := rd_lit abr29 abw29 (by decide +kernel) (by decide +kernel)
theorem abr31 : rds iniH (sw abcG) 31 0 = 3935906338 ∧ rds iniH (sw abcG) 31 1 = 2684750640 ∧ rds iniH (sw abcG) 31 2 = 909411017 ∧ rds iniH (sw abcG) 31 3 = 2010346792 ∧ rds iniH (sw abcG) 31 4 = 17410874 ∧ rds iniH (sw abcG) 31 5 = 2917635127 ∧ rds iniH (sw abcG) 31 6 = 1628611511 ∧ rds iniH (sw abcG) 31 7 = 3992961016 := rd_lit abr30 abw30 (by decide +kernel) (by decide +kernel)
theorem abr32 : rds iniH (sw abcG) 32 0 = 1941126133 ∧ rds iniH (sw abcG) 32 1 = 3935906338 ∧ rds iniH (sw abcG) 32 2 = 2684750640 ∧ rds iniH (sw abcG) 32 3 = 909411017 ∧ rds iniH (sw abcG) 32 4 = 3126399250 ∧ rds iniH (sw abcG) 32 5 = 17410874 ∧ rds iniH (sw abcG) 32 6 = 2917635127 ∧ rds iniH (sw abcG) 32 7 = 1628611511 := rd_lit abr31 abw31 (by decide +kernel) (by decide +kernel)
theorem abr33 : rds iniH (sw abcG) 33 0 = 2564891911 ∧ rds iniH (sw abcG) 33 1 = 1941126133 ∧ rds iniH (sw abcG) 33 2 = 3935906338 ∧ rds iniH (sw abcG) 33 3 = 2684750640 ∧ rds iniH (sw abcG) 33 4 = 2631529974 ∧ rds iniH (sw abcG) 33 5 = 3126399250 ∧ rds iniH (sw abcG) 33 6 = 17410874 ∧ rds iniH (sw abcG) 33 7 = 2917635127 := rd_lit abr32 abw32 (by decide +kernel) (by decide +kernel)
theorem abr34 : rds iniH (sw abcG) 34 0 = 4267724277 ∧ rds iniH (sw abcG) 34 1 = 2564891911 ∧ rds iniH (sw abcG) 34 2 = 1941126133 ∧ rds iniH (sw abcG) 34 3 = 3935906338 ∧ rds iniH (sw abcG) 34 4 = 1495571923 ∧ rds iniH (sw abcG) 34 5 = 2631529974 ∧ rds iniH (sw abcG) 34 6 = 3126399250 ∧ rds iniH (sw abcG) 34 7 = 17410874 := rd_lit abr33 abw33 (by decide +kernel) (by decide +kernel)
theorem abr35 : rds iniH (sw abcG) 35 0 = 2846323596 ∧ rds iniH (sw abcG) 35 1 = 4267724277 ∧ rds iniH (sw abcG) 35 2 = 2564891911 ∧ rds iniH (sw abcG) 35 3 = 1941126133 ∧ rds iniH (sw abcG) 35 4 = 140458035 ∧ rds iniH (sw abcG) 35 5 = 1495571923 ∧ rds iniH (sw abcG) 35 6 = 2631529974 ∧ rds iniH (sw abcG) 35 7 = 3126399250 := rd_lit abr34 abw34 (by decide +kernel) (by decide +kernel)
theorem abr36 : rds iniH (sw abcG) 36 0 = 1705037796 ∧ rds iniH (sw abcG) 36 1 = 2846323596 ∧ rds iniH (sw abcG) 36 2 = 4267724277 ∧ rds iniH (sw abcG) 36 3 = 2564891911 ∧ rds iniH (sw abcG) 36 4 = 4105175766 ∧ rds iniH (sw abcG) 36 5 = 140458035 ∧ rds iniH (sw abcG) 36 6 = 1495571923 ∧ rds iniH (sw abcG) 36 7 = 2631529974 := rd_lit abr35 abw35 (by decide +kernel) (by decide +kernel)
theorem abr37 : rds iniH (sw abcG) 37 0 = 1101421745 ∧ rds iniH (sw abcG) 37 1 = 1705037796 ∧ rds iniH (sw abcG) 37 2 = 2846323596 ∧ rds iniH (sw abcG) 37 3 = 4267724277 ∧ rds iniH (sw abcG) 37 4 = 124953195 ∧ rds iniH (sw abcG) 37 5 = 4105175766 ∧ rds iniH (sw abcG) 37 6 = 140458035 ∧ rds iniH (sw abcG) 37 7 = 1495571923 := rd_lit abr36 abw36 (by decide +kernel) (by decide +kernel)
theorem abr38 : rds iniH (sw abcG) 38 0 = 887035396 ∧ rds iniH (sw abcG) 38 1 = 1101421745 ∧ rds iniH (sw abcG) 38 2 = 1705037796 ∧ rds iniH (sw abcG) 38 3 = 2846323596 ∧ rds iniH (sw abcG) 38 4 = 2768741693 ∧ rds iniH (sw abcG) 38 5 = 124953195 ∧ rds iniH (sw abcG) 38 6 = 4105175766 ∧ rds iniH (sw abcG) 38 7 = 140458035 := rd_lit abr37 abw37 (by decide +kernel) (by decide +kernel)
theorem abr39 : rds iniH (sw abcG) 39 0 = 1841658506 ∧ rds iniH (sw abcG) 39 1 = 887035396 ∧ rds iniH (sw abcG) 39 2 = 1101421745 ∧ rds iniH (sw abcG) 39 3 = 1705037796 ∧ rds iniH (sw abcG) 39 4 = 4034403272 ∧ rds iniH (sw abcG) 39 5 = 2768741693 ∧ rds iniH (sw abcG) 39 6 = 124953195 ∧ rds iniH (sw abcG) 39 7 = 4105175766 := rd_lit abr38 abw38 (by decide +kernel) (by decide +kernel)
theorem abr40 : rds iniH (sw abcG) 40 0 = 2045405306 ∧ rds iniH (sw abcG) 40 1 = 1841658506 ∧ rds iniH (sw abcG) 40 2 = 887035396 ∧ rds iniH (sw abcG) 40 3 = 1101421745 ∧ rds iniH (sw abcG) 40 4 = 519815328 ∧ rds iniH (sw abcG) 40 5 = 4034403272 ∧ rds iniH (sw abcG) 40 6 = 2768741693 ∧ rds iniH (sw abcG) 40 7 = 124953195 := rd_lit abr39 abw39 (by decide +kernel) (by decide +kernel)
theorem abr41 : rds iniH (sw abcG) 41 0 = 3597076326 ∧ rds iniH (sw abcG) 41 1 = 2045405306 ∧ rds iniH (sw abcG) 41 2 = 1841658506 ∧ rds iniH (sw abcG) 41 3 = 887035396 ∧ rds iniH (sw abcG) 41 4 = 641019235 ∧ rds iniH (sw abcG) 41 5 = 519815328 ∧ rds iniH (sw abcG) 41 6 = 4034403272 ∧ rds iniH (sw abcG) 41 7 = 2768741693 := rd_lit abr40 abw40 (by decide +kernel) (by decide +kernel)
theorem abr42 : rds iniH (sw abcG) 42 0 = 3745932591 ∧ rds iniH (sw abcG) 42 1 = 3597076326 ∧ rds iniH (sw abcG) 42 2 = 2045405306 ∧ rds iniH (sw abcG) 42 3 = 1841658506 ∧ rds iniH (sw abcG) 42 4 = 2206934801 ∧ rds iniH (sw abcG) 42 5 = 641019235 ∧ rds iniH (sw abcG) 42 6 = 519815328 ∧ rds iniH (sw abcG) 42 7 = 4034403272 := rd_lit abr41 abw41 (by decide +kernel) (by decide +kernel)
theorem abr43 : rds iniH (sw abcG) 43 0 = 397020670 ∧ rds iniH (sw abcG) 43 1 = 3745932591 ∧ rds iniH (sw abcG) 43 2 = 3597076326 ∧ rds iniH (sw abcG) 43 3 = 2045405306 ∧ rds iniH (sw abcG) 43 4 = 3737995029 ∧ rds iniH (sw abcG) 43 5 = 2206934801 ∧ rds iniH (sw abcG) 43 6 = 641019235 ∧ rds iniH (sw abcG) 43 7 = 519815328 := rd_lit abr42 abw42 (by decide +kernel) (by decide +kernel)
theorem abr44 : rds iniH (sw abcG) 44 0 = 2638983059 ∧ rds iniH (sw abcG) 44 1 = 397020670 ∧ rds iniH (sw abcG) 44 2 = 3745932591 ∧ rds iniH (sw abcG) 44 3 = 3597076326 ∧ rds iniH (sw abcG) 44 4 = 4255271982 ∧ rds iniH (sw abcG) 44 5 = 3737995029 ∧ rds iniH (sw abcG) 44 6 = 2206934801 ∧ rds iniH (sw abcG) 44 7 = 641019235 := rd_lit abr43 abw43 (by decide +kernel) (by decide +kernel)
theorem abr45 : rds iniH (sw abcG) 45 0 = 643991573 ∧ rds iniH (sw abcG) 45 1 = 2638983059 ∧ rds iniH (sw abcG) 45 2 = 397020670 ∧ rds iniH (sw abcG) 45 3 = 3745932591 ∧ rds iniH (sw abcG) 45 4 = 2819559920 ∧ rds iniH (sw abcG) 45 5 = 4255271982 ∧ rds iniH (sw abcG) 45 6 = 3737995029 ∧ rds iniH (sw abcG) 45 7 = 2206934801 := rd_lit abr44 abw44 (by decide +kernel) (by decide +kernel)
theorem abr46 : rds iniH (sw abcG) 46 0 = 1923828625 ∧ rds iniH (sw abcG) 46 1 = 643991573 ∧ rds iniH (sw abcG) 46 2 = 2638983059 ∧ rds iniH (sw abcG) 46 3 = 397020670 ∧ rds iniH (sw abcG) 46 4 = 3077922209 ∧ rds iniH (sw abcG) 46 5 = 2819559920 ∧ rds iniH (sw abcG) 46 6 = 4255271982 ∧ rds iniH (sw abcG) 46 7 = 3737995029 := rd_lit abr45 abw45 (by decide +kernel) (by decide +kernel)
theorem abr47 : rds iniH (sw abcG) 47 0 = 2706117808 ∧ rds iniH (sw abcG) 47 1 = 1923828625 ∧ rds iniH (sw abcG) 47 2 = 643991573 ∧ rds iniH (sw abcG) 47 3 = 2638983059 ∧ rds iniH (sw abcG) 47 4 = 3581645993 ∧ rds iniH (sw abcG) 47 5 = 3077922209 ∧ rds iniH (sw abcG) 47 6 = 2819559920 ∧ rds iniH (sw abcG) 47 7 = 4255271982 := rd_lit abr46 abw46 (by decide +kernel) (by decide +kernel)
theorem abr48 : rds iniH (sw abcG) 48 0 = 1098003085 ∧ rds iniH (sw abcG) 48 1 = 2706117808 ∧ rds iniH (sw abcG) 48 2 = 1923828625 ∧ rds iniH (sw abcG) 48 3 = 643991573 ∧ rds iniH (sw abcG) 48 4 = 4274981830 ∧ rds iniH (sw abcG) 48 5 = 3581645993 ∧ rds iniH (sw abcG) 48 6 = 3077922209 ∧ rds iniH (sw abcG) 48 7 = 2819559920 := rd_lit abr47 abw47 (by decide +kernel) (by decide +kernel)
theorem abr49 : rds iniH (sw abcG) 49 0 = 91585771 ∧ rds iniH (sw abcG) 49 1 = 1098003085 ∧ rds iniH (sw abcG) 49 2 = 2706117808 ∧ rds iniH (sw abcG) 49 3 = 1923828625 ∧ rds iniH (sw abcG) 49 4 = 3178315832 ∧ rds iniH (sw abcG) 49 5 = 4274981830 ∧ rds iniH (sw abcG) 49 6 = 3581645993 ∧ rds iniH (sw abcG) 49 7 = 3077922209 := rd_lit abr48 abw48 (by decide +kernel) (by decide +kernel)
theorem abr50 : rds iniH (sw abcG) 50 0 = 4045142696 ∧ rds iniH (sw abcG) 50 1 = 91585771 ∧ rds iniH (sw abcG) 50 2 = 1098003085 ∧ rds iniH (sw abcG) 50 3 = 2706117808 ∧ rds iniH (sw abcG) 50 4 = 1851537676 ∧ rds iniH (sw abcG) 50 5 = 3178315832 ∧ rds iniH (sw abcG) 50 6 = 4274981830 ∧ rds iniH (sw abcG) 50 7 = 3581645993 := rd_lit abr49 abw49 (by decide +kernel) (by decide +kernel)
theorem abr51 : rds iniH (sw abcG) 51 0 = 2047150241 ∧ rds iniH (sw abcG) 51 1 = 4045142696 ∧ rds iniH (sw abcG) 51 2 = 91585771 ∧ rds iniH (sw abcG) 51 3 = 1098003085 ∧ rds iniH (sw abcG) 51 4 = 1391578359 ∧ rds iniH (sw abcG) 51 5 = 1851537676 ∧ rds iniH (sw abcG) 51 6 = 3178315832 ∧ rds iniH (sw abcG) 51 7 = 4274981830 := rd_lit abr50 abw50 (by decide +kernel) (by decide +kernel)
theorem abr52 : rds iniH (sw abcG) 52 0 = 2288941602 ∧ rds iniH (sw abcG) 52 1 = 2047150241 ∧ rds iniH (sw abcG) 52 2 = 4045142696 ∧ rds iniH (sw abcG) 52 3 = 91585771 ∧ rds iniH (sw abcG) 52 4 = 1227037726 ∧ rds iniH (sw abcG) 52 5 = 1391578359 ∧ rds iniH (sw abcG) 52 6 = 1851537676 ∧ rds iniH (sw abcG) 52 7 = 3178315832 := rd_lit abr51 abw51 (by decide +kernel) (by decide +kernel)
theorem abr53 : rds iniH (sw abcG) 53 0 = 270520975 ∧ rds iniH (sw abcG) 53 1 = 2288941602 ∧ rds iniH (sw abcG) 53 2 = 2047150241 ∧ rds iniH (sw abcG) 53 3 = 4045142696 ∧ rds iniH (sw abcG) 53 4 = 1386118400 ∧ rds iniH (sw abcG) 53 5 = 1227037726 ∧ rds iniH (sw abcG) 53 6 = 1391578359 ∧ rds iniH (sw abcG) 53 7 = 1851537676 := rd_lit abr52 abw52 (by decide +kernel) (by decide +kernel)
theorem abr54 : rds iniH (sw abcG) 54 0 = 4117770203 ∧ rds iniH (sw abcG) 54 1 = 270520975 ∧ rds iniH (sw abcG) 54 2 = 2288941602 ∧ rds iniH (sw abcG) 54 3 = 2047150241 ∧ rds iniH (sw abcG) 54 4 = 2672265155 ∧ rds iniH (sw abcG) 54 5 = 1386118400 ∧ rds iniH (sw abcG) 54 6 = 1227037726 ∧ rds iniH (sw abcG) 54 7 = 1391578359 := rd_lit abr53 abw53 (by decide +kernel) (by decide +kernel)
theorem abr55 : rds iniH (sw abcG) 55 0 = 1053056219 ∧ rds iniH (sw abcG) 55 1 = 4117770203 ∧ rds iniH (sw abcG) 55 2 = 270520975 ∧ rds iniH (sw abcG) 55 3 = 2288941602 ∧ rds iniH (sw abcG) 55 4 = 3842906959 ∧ rds iniH (sw abcG) 55 5 = 2672265155 ∧ rds iniH (sw abcG) 55 6 = 1386118400 ∧ rds iniH (sw abcG) 55 7 = 1227037726 := rd_lit abr54 abw54 (by decide +kernel) (by decide +kernel)
theorem abr56 : rds iniH (sw abcG) 56 0 = 952932627 ∧ rds iniH (sw abcG) 56 1 = 1053056219 ∧ rds iniH (sw abcG) 56 2 = 4117770203 ∧ rds iniH (sw abcG) 56 3 = 270520975 ∧ rds iniH (sw abcG) 56 4 = 1422599787 ∧ rds iniH (sw abcG) 56 5 = 3842906959 ∧ rds iniH (sw abcG) 56 6 = 2672265155 ∧ rds iniH (sw abcG) 56 7 = 1386118400 := rd_lit abr55 abw55 (by decide +kernel) (by decide +kernel)
theorem abr57 : rds iniH (sw abcG) 57 0 = 4241590395 ∧ rds iniH (sw abcG) 57 1 = 952932627 ∧ rds iniH (sw abcG) 57 2 = 1053056219 ∧ rds iniH (sw abcG) 57 3 = 4117770203 ∧ rds iniH (sw abcG) 57 4 = 2606665836 ∧ rds iniH (sw abcG) 57 5 = 1422599787 ∧ rds iniH (sw abcG) 57 6 = 3842906959 ∧ rds iniH (sw abcG) 57 7 = 2672265155 := rd_lit abr56 abw56 (by decide +kernel) (by decide +kernel)
theorem abr58 : rds iniH (sw abcG) 58 0 = 3227702383 ∧ rds iniH (sw abcG) 58 1 = 4241590395 ∧ rds iniH (sw abcG) 58 2 = 952932627 ∧ rds iniH (sw abcG) 58 3 = 1053056219 ∧ rds iniH (sw abcG) 58 4 = 2118385806 ∧ rds iniH (sw abcG) 58 5 = 2606665836 ∧ rds iniH (sw abcG) 58 6 = 1422599787 ∧ rds iniH (sw abcG) 58 7 = 3842906959 := rd_lit abr57 abw57 (by decide +kernel) (by decide +kernel)
theorem abr59 : rds iniH (sw abcG) 59 0 = 4290184306 ∧ rds iniH (sw abcG) 59 1 = 3227702383 ∧ rds iniH (sw abcG) 59 2 = 4241590395 ∧ rds iniH (sw abcG) 59 3 = 952932627 ∧ rds iniH (sw abcG) 59 4 = 1837350854 ∧ rds iniH (sw abcG) 59 5 = 2118385806 ∧ rds iniH (sw abcG) 59 6 = 2606665836 ∧ rds iniH (sw abcG) 59 7 = 1422599787 := rd_lit abr58 abw58 (by decide +kernel) (by decide +kernel)
theorem abr60 : rds iniH (sw abcG) 60 0 = 3064893439 ∧ rds iniH (sw abcG) 60 1 = 4290184306 ∧ rds iniH (sw abcG) 60 2 = 3227702383 ∧ rds iniH (sw abcG) 60 3 = 4241590395 ∧ rds iniH (sw abcG) 60 4 = 2988158269 ∧ rds iniH (sw abcG) 60 5 = 1837350854 ∧ rds iniH (sw abcG) 60 6 = 2118385806 ∧ rds iniH (sw abcG) 60 7 = 2606665836 := rd_lit abr59 abw59 (by decide +kernel) (by decide +kernel)
theorem abr61 : rds iniH (sw abcG) 61 0 = 3093179625 ∧ rds iniH (sw abcG) 61 1 = 3064893439 ∧ rds iniH (sw abcG) 61 2 = 4290184306 ∧ rds iniH (sw abcG) 61 3 = 3227702383 ∧ rds iniH (sw abcG) 61 4 = 2518632596 ∧ rds iniH (sw abcG) 61 5 = 2988158269 ∧ rds iniH (sw abcG) 61 6 = 1837350854 ∧ rds iniH (sw abcG) 61 7 = 2118385806 := rd_lit abr60 abw60 (by decide +kernel) (by decide +kernel)
theorem abr62 : rds iniH (sw abcG) 62 0 = 80891244 ∧ rds iniH (sw abcG) 62 1 = 3093179625 ∧ rds iniH (sw abcG) 62 2 = 3064893439 ∧ rds iniH (sw abcG) 62 3 = 4290184306 ∧ rds iniH (sw abcG) 62 4 = 2492278198 ∧ rds iniH (sw abcG) 62 5 = 2518632596 ∧ rds iniH (sw abcG) 62 6 = 2988158269 ∧ rds iniH (sw abcG) 62 7 = 1837350854 := rd_lit abr61 abw61 (by decide +kernel) (by decide +kernel)
theorem abr63 : rds iniH (sw abcG) 63 0 = 3550093669 ∧ rds iniH (sw abcG) 63 1 = 80891244 ∧ rds iniH (sw abcG) 63 2 = 3093179625 ∧ rds iniH (sw abcG) 63 3 = 3064893439 ∧ rds iniH (sw abcG) 63 4 = 4212265488 ∧ rds iniH (sw abcG) 63 5 = 2492278198 ∧ rds iniH (sw abcG) 63 6 = 2518632596 ∧ rds iniH (sw abcG) 63 7 = 2988158269 := rd_lit abr62 abw62 (by decide +kernel) (by decide +kernel)
theorem abr64 : rds iniH (sw abcG) 64 0 = 1349398616 ∧ rds iniH (sw abcG) 64 1 = 3550093669 ∧ rds iniH (sw abcG) 64 2 = 80891244 ∧ rds iniH (sw abcG) 64 3 = 3093179625 ∧ rds iniH (sw abcG) 64 4 = 1593118500 ∧ rds iniH (sw abcG) 64 5 = 4212265488 ∧ rds iniH (sw abcG) 64 6 = 2492278198 ∧ rds iniH (sw abcG) 64 7 = 2518632596 := rd_lit abr63 abw63 (by decide +kernel) (by decide +kernel)
theorem abc_hash : shaH abcF 3 0 = 186 ∧ shaH abcF 3 1 = 120 ∧ shaH abcF 3 31 = 173 := by
  have e : sT 3 / 64 = 1 := by decide
  have r := abr64
  have hb : hB (spad abcF 3) 1 = hmx iniH abcG := rfl
  have h0 : hmx iniH abcG 0 = 3128432319 := by
    unfold hmx
    rw [r.1]
    decide +kernel
  have h7 : hmx iniH abcG 7 = 4060091821 := by
    unfold hmx
    rw [r.2.2.2.2.2.2.2]
    decide +kernel
  unfold shaH
  rw [e, hb]
  refine ⟨?_, ?_, ?_⟩
  · show hmx iniH abcG 0 / 2 ^ 24 % 256 = 186
    rw [h0]
    decide +kernel
  · show hmx iniH abcG 0 / 2 ^ 16 % 256 = 120
    rw [h0]
    decide +kernel
  · show hmx iniH abcG 7 / 2 ^ 0 % 256 = 173
    rw [h7]
    decide +kernel
end Go.Proofs.YtkecehcnoihiiaaDoor
namespace Go.Proofs.YtkecehcnoihiiaaDoor
open Go.RowKit

set_option maxRecDepth 100000 in
set_option maxHeartbeats 1000000 in
theorem slives (w : World) (hT : STab w) : Calls Tryd.prog 11 #[] w fun e w' => e = .returned (.bool true) ∧ Below w.heap.size w w' := by
  have kc : (convert 22 22 (.slice (some ⟨w.heap.size, 0, none⟩) 3 3)).run Tryd.prog (w.alloc (.cells #[.int .u8 97, .int .u8 98, .int .u8 99] 5)) = .ok (.slice (some ⟨w.heap.size, 0, none⟩) 3 3) (w.alloc (.cells #[.int .u8 97, .int .u8 98, .int .u8 99] 5 (3, 4))) := Lib.run_convert_bytes_const (P := Tryd.prog) w 22 5 #[.int .u8 97, .int .u8 98, .int .u8 99] 3 3 Tryd.underlying22 Tryd.underlying5
  have hb1 : Below w.heap.size w (w.alloc (.cells #[.int .u8 97, .int .u8 98, .int .u8 99] 5 (3, 4))) := (Below.refl _ _).alloc (Nat.le_refl _) _
  have hr1 := heap_alloc_new w (.cells #[.int .u8 97, .int .u8 98, .int .u8 99] 5 (3, 4))
  have SU := Lib.hid (hsum (n := 3) (f := abcF) (v := .slice (some ⟨w.heap.size, 0, none⟩) 3 3) (by decide) (fun j => by
    unfold abcF
    rcases j with _ | _ | _ | j <;> simp) (w.alloc (.cells #[.int .u8 97, .int .u8 98, .int .u8 99] 5 (3, 4))) (hT.below hb1) ⟨some ⟨w.heap.size, 0, none⟩, 3, rfl, by omega, nofun, .inr ⟨w.heap.size, 0, rfl, by simp, fun j hj => by
      rcases j with _ | _ | _ | j
      · exact (cell_of_row _ _ 0 _ _ _ hr1).trans rfl
      · exact (cell_of_row _ _ 1 _ _ _ hr1).trans rfl
      · exact (cell_of_row _ _ 2 _ _ _ hr1).trans rfl
      · omega⟩⟩)
  have H1 := Lib.hid hb1
  have HN := Lib.hid abc_hash
  obtain ⟨r, hr⟩ : ∃ r, shaH abcF 3 = r := ⟨_, rfl⟩
  rw [hr] at SU HN
  clear hr hT hb1 hr1
  go_enter Tryd.func11, Tryd.ntmps11
  go_wp2_with fail
  refine SU.out.mono ?_
  rintro e w2 ⟨rfl, hb⟩
  have HB := Lib.hid (H1.out.trans (hb.mono (by simp)))
  have hrow : ((w2.alloc (.cells #[.int .u8 0, .int .u8 0, .int .u8 0, .int .u8 0, .int .u8 0, .int .u8 0, .int .u8 0, .int .u8 0, .int .u8 0, .int .u8 0, .int .u8 0, .int .u8 0, .int .u8 0, .int .u8 0, .int .u8 0, .int .u8 0, .int .u8 0, .int .u8 0, .int .u8 0, .int .u8 0, .int .u8 0, .int .u8 0, .int .u8 0, .int .u8 0, .int .u8 0, .int .u8 0, .int .u8 0, .int .u8 0, .int .u8 0, .int .u8 0, .int .u8 0, .int .u8 0] 25)).setRow w2.heap.size (ar .u8 32 r)).heap[w2.heap.size]? = some (.cells (ar .u8 32 r) 25 (0, 0)) := setRow_heap _ _ _ _ _ _ (heap_alloc_new _ _)
  have c0 := (cell_of_row _ _ 0 _ _ _ hrow).trans (ar_at _ _ _ _ (by omega))
  have c1 := (cell_of_row _ _ 1 _ _ _ hrow).trans (ar_at _ _ _ _ (by omega))
  have c2 := (cell_of_row _ _ 31 _ _ _ hrow).trans (ar_at _ _ _ _ (by omega))
  rw [HN.out.1] at c0
  rw [HN.out.2.1] at c1
  rw [HN.out.2.2] at c2
  clear hrow hb kc
  go_wp2_with (refine wpList_store_row rfl 25 _ _ rfl w2.heap.size (ar .u8 32 r) rfl rfl 25 _ (heap_alloc_new _ _) (by rw [ar_size]; exact info32s) (by rw [ar_size]; rfl) (ar_one _ _ _) ?_)
  go_ret
  exact ⟨rfl, below_setRow (HB.out.alloc HB.out.size _) HB.out.size _⟩
end Go.Proofs.YtkecehcnoihiiaaDoor
namespace Go.Proofs.YtkecehcnoihiiaaDoor
open Go.RowKit

/-- Whether the first n are the same. -/
def eqF (n : Nat) (f g : Nat → Int) : Bool := (List.range n).all fun i => f i == g i
theorem eqF_iff {n : Nat} {f g : Nat → Int} : eqF n f g = true ↔ ∀ i, i < n → f i = g i := by simp [eqF]
theorem eqF_same (n : Nat) (f : Nat → Int) : eqF n f f = true := eqF_iff.2 fun _ _ => rfl
section
variable {P : Program}
theorem forIn_all (w : World) (q : Nat → Bool) (body : Nat → Option Bool × Unit → Sem (ForInStep (Option Bool × Unit))) : ∀ l : List Nat,
    (∀ i, i ∈ l → (body i (none, ())).run P w = .ok (if q i then .yield (none, ()) else .done (some false, ())) w) →
    (forIn l (none, ()) body).run P w = .ok (if l.all q then (none, ()) else (some false, ())) w
  | [], _ => by simp [Sem.run_pure]
  | a :: l, h => by
    have h1 := h a (by simp)
    have h2 := forIn_all w q body l (fun i hi => h i (by simp [hi]))
    rw [List.forIn_cons, Sem.run_bind, h1, Result.andThen_ok]
    cases hq : q a with
    | true =>
      simp only [hq, if_true, List.all_cons, Bool.true_and]
      exact h2
    | false =>
      simp [hq, Sem.run_pure]
theorem eqi_ar (n : Nat) (T E : TypeId) (k : IntKind) (f g : Nat → Int) (d : Nat) (w : World) (hT : P.underlying T = some (.array n E)) (hE : P.underlying E = some (.int k)) (hs : (sizeOf E).run P w = .ok 1 w) (ha : (isAgg E).run P w = .ok false w) :
    (Op.equalIn (d + 2) T (.agg (ar k n f)) (.agg (ar k n g))).run P w = .ok (eqF n f g) w := by
  rw [Op.equalIn]
  simp only [Sem.run_bind, run_underlying hT, Result.andThen_ok, hs]
  simp only [Std.Legacy.Range.forIn_eq_forIn_range', Std.Legacy.Range.size, Nat.sub_zero, Nat.add_sub_cancel, Nat.div_one]
  rw [forIn_all w (fun i => f i == g i) _ (List.range' 0 n) (fun i hi => ?_)]
  · have hd : (List.range' 0 n).all (fun i => f i == g i) = eqF n f g := by
      rw [Bool.eq_iff_iff, eqF_iff]
      simp [List.mem_range']
    rw [hd]
    cases eqF n f g <;> simp [Result.andThen, Sem.run_pure]
  · have hin : i < n := by
      rw [List.mem_range'] at hi
      omega
    have p1 := ar_at k n f i hin
    have p2 := ar_at k n g i hin
    have e : (Op.equalIn (d + 1) E (.int k (f i)) (.int k (g i))).run P w = .ok (f i == g i) w := by
      rw [Op.equalIn]
      simp [Sem.run_bind, run_underlying hE, Sem.run_pure]
    simp only [Sem.run_bind, part, ha, Nat.mul_one, p1, p2, Result.andThen_ok, Bool.false_eq_true, if_false]
    simp [Sem.run_pure, ha, e]
    by_cases hq : f i = g i <;> simp [hq]
theorem eqb_ar (n : Nat) (T E : TypeId) (k : IntKind) (f g : Nat → Int) (w : World) (hT : P.underlying T = some (.array n E)) (hE : P.underlying E = some (.int k)) (hs : (sizeOf E).run P w = .ok 1 w) (ha : (isAgg E).run P w = .ok false w) :
    (binOp BinOp.eql T (.agg (ar k n f)) (.agg (ar k n g))).run P w = .ok (.bool (eqF n f g)) w := by
  have h := eqi_ar n T E k f g 9998 w hT hE hs ha
  simp [binOp, Op.equal, Op.maxDepth, h]
theorem neb_ar (n : Nat) (T E : TypeId) (k : IntKind) (f g : Nat → Int) (w : World) (hT : P.underlying T = some (.array n E)) (hE : P.underlying E = some (.int k)) (hs : (sizeOf E).run P w = .ok 1 w) (ha : (isAgg E).run P w = .ok false w) :
    (binOp BinOp.neq T (.agg (ar k n f)) (.agg (ar k n g))).run P w = .ok (.bool (!eqF n f g)) w := by
  have h := eqi_ar n T E k f g 9998 w hT hE hs ha
  simp [binOp, Op.equal, Op.maxDepth, h]
theorem load_ar {g n : Nat} {k : IntKind} {T : TypeId} {h : Nat → Int} {d : TypeDesc} {w : World} (hg : w.heap[g]? = some (.cells (ar k n h) T (0, 0))) (hu : P.underlying T = some d) (hd : (match d with | .struct _ | .array _ _ => true | _ => false) = true) (hi : (P.info? T).map (·.size) = some n) : (Instr.loadAt T (.pointer (some ⟨g, 0, none⟩))).run P w = .ok (.agg (ar k n h)) w := by
  simp only [Instr.loadAt, Instr.sureAddr, Sem.run_bind, Sem.run_pure, Result.andThen_ok, run_loadVar_row w g T T (ar k n h) (0, 0) _ hg hu hd (by rw [ar_size]; exact hi)]
end
end Go.Proofs.YtkecehcnoihiiaaDoor
namespace Go.Proofs.YtkecehcnoihiiaaDoor
open Go.RowKit

/-- The worlds of the law: the document's hash at B, a digest at V. -/
structure CSu (w : World) (V B : Nat) (h : Nat → Int) (f : Nat → Nat) (m : Nat) (wx : World) : Prop where
  old : Below w.heap.size w wx
  rb : wx.heap[B]? = some (.cells (ar .u8 32 h) 25 (0, 0))
  dg : DgAt wx V f m wx
  hV : w.heap.size ≤ V
  ne : B ≠ V
theorem DgAt.lt {w wx : World} {V m : Nat} {f : Nat → Nat} (h : DgAt w V f m wx) : V < wx.heap.size := by
  obtain ⟨l, h1, h2, h3⟩ := h
  exact (Array.getElem?_eq_some_iff.1 h3.row).1
section
variable {w wx w' : World} {V B m : Nat} {h : Nat → Int} {f : Nat → Nat}
theorem CSu.below (c : CSu w V B h f m wx) (hb : Below wx.heap.size wx w') : CSu w V B h f m w' :=
  ⟨c.old.trans (hb.mono c.old.size), (hb.block _ (Array.getElem?_eq_some_iff.1 c.rb).1).trans c.rb, (c.dg.keep hb).base, c.hV, c.ne⟩
theorem CSu.drew (c : CSu w V B h f m wx) : CSu w V B h f m wx.drew := c.below (Below.drew (Below.refl _ _))
theorem CSu.wrote {m' : Nat} (c : CSu w V B h f m wx) (hw : DgAt wx V f m' w') : CSu w V B h f m' w' :=
  ⟨hw.bt.below c.old c.hV c.old.size, (hw.bt.block _ c.ne (Array.getElem?_eq_some_iff.1 c.rb).1).trans c.rb, hw.base, c.hV, c.ne⟩
end
theorem stab_below {w wx : World} (h : STab w) (hb : Below w.heap.size w wx) : STab wx := h.below hb
theorem ne32 (f : Nat → Int) (w : World) : (binOp BinOp.neq 25 (.agg (ar .u8 32 f)) (.agg (ar .u8 32 f))).run Tryd.prog w = .ok (.bool false) w := by
  have h := neb_ar 32 25 5 .u8 f f w (P := Tryd.prog) Tryd.underlying25 Tryd.underlying5 (by kernel_rfl) (by kernel_rfl)
  rw [h, eqF_same]
  rfl
theorem eq32 (f : Nat → Int) (w : World) : (binOp BinOp.eql 25 (.agg (ar .u8 32 f)) (.agg (ar .u8 32 f))).run Tryd.prog w = .ok (.bool true) w := by
  have h := eqb_ar 32 25 5 .u8 f f w (P := Tryd.prog) Tryd.underlying25 Tryd.underlying5 (by kernel_rfl) (by kernel_rfl)
  rw [h, eqF_same]
theorem eqg32 (f g : Nat → Int) (o1 o2 : Operand) (w : World) : (eqGuard BinOp.eql 25 o1 o2 (.agg (ar .u8 32 f)) (.agg (ar .u8 32 g))).run Tryd.prog w = .ok () w := by kernel_rfl
theorem neg32 (f g : Nat → Int) (o1 o2 : Operand) (w : World) : (eqGuard BinOp.neq 25 o1 o2 (.agg (ar .u8 32 f)) (.agg (ar .u8 32 g))).run Tryd.prog w = .ok () w := by kernel_rfl
theorem ld32 {g : Nat} {h : Nat → Int} {w : World} (hg : w.heap[g]? = some (.cells (ar .u8 32 h) 25 (0, 0))) : (Instr.loadAt 25 (.pointer (some ⟨g, 0, none⟩))).run Tryd.prog w = .ok (.agg (ar .u8 32 h)) w :=
  load_ar hg Tryd.underlying25 rfl info32s
theorem slb_arg {n : Nat} {f : Nat → Nat} {u : Value} {w : World} (h : SlB n f u w) : ArgB w u n f := by
  obtain ⟨g, c, h1, h2, h3, h4⟩ := h
  refine ⟨_, c, h1, h2, (fun e => by cases e), ?_⟩
  rcases Nat.eq_zero_or_pos n with e | e
  · exact .inl e
  · exact .inr ⟨g, 0, rfl, h3, h4⟩
theorem slb_rd {n g : Nat} {f : Nat → Nat} {w : World} (h3 : g < w.heap.size) (h4 : ∀ j, j < n → w.cell? ⟨g, 0 + j, none⟩ = some (.int .u8 (f j : Nat))) : RdB w (some ⟨g, 0, none⟩) n f := .inr ⟨g, 0, rfl, h3, h4⟩
/-- What is written of the bytes: a part of them, copied. -/
theorem part_of {w wx : World} {V B n cap l r : Nat} {a : Option Addr} {f : Nat → Nat} {h : Nat → Int} {m : Nat} (c : CSu w V B h f m wx) (hP : ArgB w (.slice a n cap) n f) (hn : n ≤ 1048576) (hl : l + r ≤ n) (a' : Option Addr) (k : Nat)
    (hs : ArgB w (.slice a n cap) n f → ArgB w (.slice a' r (k)) r (fun j => f (l + j))) : ∃ g c5 w5, (Builtin.append_ #[22, 22] 22 #[.slice (some ⟨wx.heap.size, 0, none⟩) 0 0, .slice a' r k]).run Tryd.prog (wx.alloc (.cells #[] 5)) = .ok (.slice (some ⟨g, 0, none⟩) r c5) w5 ∧ ArgB w5 (.slice (some ⟨g, 0, none⟩) r c5) r (fun j => f (l + j)) ∧ (∀ a cap, (Value.slice (some ⟨g, 0, none⟩) r c5) = .slice a r cap → 0 < r → ∀ b o, a = some ⟨b, o, none⟩ → b ≠ V) ∧ CSu w V B h f m w5 := by
  have hb : Below wx.heap.size wx (wx.alloc (.cells #[] 5)) := (Below.refl _ _).alloc (Nat.le_refl _) _
  have c1 := c.below hb
  obtain ⟨g, c5, w5, h1, h2, h3, h4, h5, h6⟩ := copied (D := wx.heap.size) (by simp) ((hs hP).below c1.old) (by omega)
  have hVl : V < wx.heap.size := c.dg.lt
  refine ⟨g, c5, w5, h1, slb_arg ⟨g, c5, rfl, h2, h3, h5⟩, fun a cap ea h0 b o e => ?_, c1.below h6⟩
  cases ea
  cases e
  have := h4 h0
  simp at this
  omega
set_option maxRecDepth 100000 in
set_option maxHeartbeats 2000000 in
-- THE LAW.
theorem ssums_any {n m : Nat} {f g : Nat → Nat} {v u : Value} {w : World} (hn : n ≤ 1048576) (hf : ∀ j, f j < 256) (hm : m ≤ 1048576) (hg : ∀ j, g j < 65536) (hT : STab w) (hP : ArgB w v n f) (hU : Arg16 w u m g) : Calls Tryd.prog 3 #[v, u] w fun e w' => e = .returned (.bool true) ∧ Below w.heap.size w w' := by
  have HP := Lib.hid hP
  obtain ⟨a, cap, rfl, hc, -, -⟩ := hP
  obtain ⟨au, cu, rfl, hcu, hru⟩ := hU
  have HT := Lib.hid hT
  have HF := Lib.hid (And.intro hf (And.intro hg (And.intro hc (And.intro hn (And.intro hm hcu)))))
  have HU := Lib.hid hru
  have HRS := Lib.hid (rsum_any hash_is (show n < 1500000 by omega) hf HP.out)
  have HI : ∀ f, Hid ((Tryd.prog.info? 25).map (·.size) = some (ar .u8 32 f).size) := fun f => Lib.hid (by rw [ar_size]; exact info32s)
  have HSM : Hid (∀ q wx, Below w.heap.size w wx → SlB n f q wx → Calls Tryd.prog 8 #[q] wx fun e w' => e = .returned (.agg (ar .u8 32 (shaH f n))) ∧ Below wx.heap.size wx w') := Lib.hid fun q wx hb hq => hsum (by omega) hf wx (stab_below HT.out hb) (slb_arg hq)
  have HSS : Hid (∀ B h wx V l, l ≤ n → CSu w V B h f l wx → Calls Tryd.prog 10 #[.pointer (some ⟨V, 0, none⟩)] wx fun e w' => e = .returned (.agg (ar .u8 32 (shaH f l))) ∧ Below wx.heap.size wx w') := Lib.hid fun B h wx V l hl c => hdsum (by omega) hf wx (stab_below HT.out c.old) c.dg
  have HLV : Hid (∀ wx, Below w.heap.size w wx → Calls Tryd.prog 11 #[] wx fun e w' => e = .returned (.bool true) ∧ Below wx.heap.size wx w') := Lib.hid fun wx hb => slives wx (stab_below HT.out hb)
  obtain ⟨h, hh⟩ : ∃ h, shaH f n = h := ⟨_, rfl⟩
  rw [hh] at HRS HSM
  have HH := Lib.hid hh
  have hn0 : (0 : Int) ≤ n := by omega
  have hn1 : (n : Int) ≤ 1048576 := by omega
  have hm0 : (0 : Int) ≤ m := by omega
  have hm1 : (m : Int) ≤ 1048576 := by omega
  clear hru hf hg hc hcu hn hm hT hh
  go_enter Tryd.func3, Tryd.ntmps3
  go_wp2_with fail
  refine HRS.out.mono ?_
  rintro e w2 ⟨rfl, hb2⟩
  have HRB := Lib.hid (heap_alloc_new w2 (.cells (#[.int .u8 0, .int .u8 0, .int .u8 0, .int .u8 0, .int .u8 0, .int .u8 0, .int .u8 0, .int .u8 0, .int .u8 0, .int .u8 0, .int .u8 0, .int .u8 0, .int .u8 0, .int .u8 0, .int .u8 0, .int .u8 0, .int .u8 0, .int .u8 0, .int .u8 0, .int .u8 0, .int .u8 0, .int .u8 0, .int .u8 0, .int .u8 0, .int .u8 0, .int .u8 0, .int .u8 0, .int .u8 0, .int .u8 0, .int .u8 0, .int .u8 0, .int .u8 0]) 25))
  obtain ⟨B, hB⟩ : ∃ B, w2.heap.size = B := ⟨_, rfl⟩
  have H2 := Lib.hid (show Below w.heap.size w ((w2.alloc (.cells (#[.int .u8 0, .int .u8 0, .int .u8 0, .int .u8 0, .int .u8 0, .int .u8 0, .int .u8 0, .int .u8 0, .int .u8 0, .int .u8 0, .int .u8 0, .int .u8 0, .int .u8 0, .int .u8 0, .int .u8 0, .int .u8 0, .int .u8 0, .int .u8 0, .int .u8 0, .int .u8 0, .int .u8 0, .int .u8 0, .int .u8 0, .int .u8 0, .int .u8 0, .int .u8 0, .int .u8 0, .int .u8 0, .int .u8 0, .int .u8 0, .int .u8 0, .int .u8 0]) 25)).setRow B (ar .u8 32 h)) ∧ ((w2.alloc (.cells (#[.int .u8 0, .int .u8 0, .int .u8 0, .int .u8 0, .int .u8 0, .int .u8 0, .int .u8 0, .int .u8 0, .int .u8 0, .int .u8 0, .int .u8 0, .int .u8 0, .int .u8 0, .int .u8 0, .int .u8 0, .int .u8 0, .int .u8 0, .int .u8 0, .int .u8 0, .int .u8 0, .int .u8 0, .int .u8 0, .int .u8 0, .int .u8 0, .int .u8 0, .int .u8 0, .int .u8 0, .int .u8 0, .int .u8 0, .int .u8 0, .int .u8 0, .int .u8 0]) 25)).setRow B (ar .u8 32 h)).heap[B]? = some (.cells (ar .u8 32 h) 25 (0, 0)) from by
    rw [← hB]
    exact ⟨below_setRow (hb2.alloc hb2.size _) hb2.size _, setRow_heap _ _ _ _ _ _ HRB.out⟩)
  rw [hB] at HRB
  clear hb2 HRS
  go_wp2_with (refine wpList_store_row rfl 25 _ _ rfl B (ar .u8 32 h) rfl rfl 25 _ HRB.out (HI h).out (by rw [ar_size]; rfl) (ar_one _ _ _) ?_)
  obtain ⟨w3, hw3⟩ : ∃ z, (w2.alloc (.cells (#[.int .u8 0, .int .u8 0, .int .u8 0, .int .u8 0, .int .u8 0, .int .u8 0, .int .u8 0, .int .u8 0, .int .u8 0, .int .u8 0, .int .u8 0, .int .u8 0, .int .u8 0, .int .u8 0, .int .u8 0, .int .u8 0, .int .u8 0, .int .u8 0, .int .u8 0, .int .u8 0, .int .u8 0, .int .u8 0, .int .u8 0, .int .u8 0, .int .u8 0, .int .u8 0, .int .u8 0, .int .u8 0, .int .u8 0, .int .u8 0, .int .u8 0, .int .u8 0]) 25)).setRow B (ar .u8 32 h) = z := ⟨_, rfl⟩
  rw [hw3] at H2 ⊢
  clear hw3 HRB hB
  refine (hnew w3).mono ?_
  rintro e w4 ⟨V, rfl, hV3, hb4, hr4⟩
  have hBl : B < w3.heap.size := (Array.getElem?_eq_some_iff.1 H2.out.2).1
  have H4 := Lib.hid (show CSu w V B h f 0 w4 from ⟨H2.out.1.trans (hb4.mono H2.out.1.size), (hb4.block _ hBl).trans H2.out.2, dg_new f hr4, Nat.le_trans H2.out.1.size hV3, by omega⟩)
  clear hr4 hb4 hBl H2 hV3
  go_wp2_with fail
  refine region_many [.val 13 ((.pointer (some ⟨V, 0, none⟩))), .val 14 (.bool false), .val 15 (.bool false), .own 16 EmB, .val 17 ((.slice a n cap)), .own 18 (SlB n f), .val 19 (.agg (ar .u8 32 h)), .val 20 ((.agg (ar .u8 32 h))), .val 21 (.bool false), .val 22 (.bool false)] [] (fun p => #[]) (fun i => i) (by kernel_rfl) (by kernel_rfl) (by exact ⟨trivial, trivial, trivial, ⟨rfl, fun _ _ _ hb h => EmB.below hb h⟩, trivial, ⟨rfl, fun _ _ _ hb h => SlB.below hb h⟩, trivial, trivial, trivial, trivial, trivial⟩) (fun p hp => by cases hp) ?_ ?_
  · refine ⟨?_, ?_, ?_, ?_, ?_, ?_, ?_, ?_, ?_, ?_, trivial⟩
    · intro ac wx hC hsz hK
      have h0 : ac.tmps.getD 6 undef = (.pointer (some ⟨V, 0, none⟩)) := hK.1 6 (by kernel_rfl)
      exact mm_val ((.pointer (some ⟨V, 0, none⟩))) rfl (by kernel_rfl) (by rw [← h0]; kernel_rfl) hC (by kernel_rfl) (by rw [hsz]; exact of_decide_eq_true (by kernel_rfl)) rfl
    · intro ac wx hC hsz hK
      have h0 : ac.tmps.getD 13 undef = (.pointer (some ⟨V, 0, none⟩)) := hK.2 ⟨0, .data⟩ (by simp) rfl _ rfl
      exact mm_bin .eql 27 (.tmp 13) (.const ((.pointer none))) 27 ((.pointer (some ⟨V, 0, none⟩))) ((.pointer none)) (.bool false) rfl rfl (by kernel_rfl) h0 rfl (by kernel_rfl) (by kernel_rfl) hC (by kernel_rfl) (by rw [hsz]; exact of_decide_eq_true (by kernel_rfl)) rfl
    · intro ac wx hC hsz hK
      have h0 : ac.tmps.getD 14 undef = .bool false := hK.2 ⟨1, .data⟩ (by simp) rfl _ rfl
      exact mm_val (.bool false) rfl (by kernel_rfl) (by rw [← h0]; kernel_rfl) hC (by kernel_rfl) (by rw [hsz]; exact of_decide_eq_true (by kernel_rfl)) rfl
    · intro ac wx hC hsz hK
      have hg : ac.tmps.getD 15 undef = .bool false := hK.2 ⟨2, .guard⟩ (by simp) rfl _ rfl
      have hb : Below wx.heap.size wx (wx.alloc (.cells #[] 5)) := (Below.refl _ _).alloc (Nat.le_refl _) _
      exact mm_grow (.slice (some ⟨wx.heap.size, 0, none⟩) 0 0) (wx.alloc (.cells #[] 5)) EmB rfl (wanted_of (d := 15) rfl (by kernel_rfl) hg) (by kernel_rfl) hb ⟨_, rfl, by simp⟩ hC (by kernel_rfl) (by rw [hsz]; exact of_decide_eq_true (by kernel_rfl)) rfl
    · intro ac wx hC hsz hK
      have hg : ac.tmps.getD 15 undef = .bool false := hK.2 ⟨2, .guard⟩ (by simp) rfl _ rfl
      have h0 : ac.tmps.getD 0 undef = (.slice a n cap) := hK.1 0 (by kernel_rfl)
      exact mm_val ((.slice a n cap)) rfl (wanted_of (d := 15) rfl (by kernel_rfl) hg) (by rw [← h0]; kernel_rfl) hC (by kernel_rfl) (by rw [hsz]; exact of_decide_eq_true (by kernel_rfl)) rfl
    · intro ac wx hC hsz hK
      have hg : ac.tmps.getD 15 undef = .bool false := hK.2 ⟨2, .guard⟩ (by simp) rfl _ rfl
      have h1 : ac.tmps.getD 17 undef = (.slice a n cap) := hK.2 ⟨4, .data⟩ (by simp) rfl _ rfl
      obtain ⟨E0, hE, hEl⟩ := hK.2 ⟨3, .data⟩ (by simp) rfl _ rfl
      have h0 : ac.tmps.getD 16 undef = .slice (some ⟨E0, 0, none⟩) 0 0 := hE
      obtain ⟨g5, c5, w5, hr5, e5, f5, -, k5, b5⟩ := copied hEl (HP.out.below ((H4.out.below hC.1)).old) (by have := HF.out.2.2.2.1; omega)
      exact mm_grow (.slice (some ⟨g5, 0, none⟩) n c5) w5 (SlB n f) rfl (wanted_of (d := 15) rfl (by kernel_rfl) hg) (run_app (.tmp 16) (.tmp 17) _ _ _ rfl rfl h0 h1 hr5) b5 ⟨g5, c5, rfl, e5, f5, k5⟩ hC (by kernel_rfl) (by rw [hsz]; exact of_decide_eq_true (by kernel_rfl)) rfl
    · intro ac wx hC hsz hK
      have hg : ac.tmps.getD 15 undef = .bool false := hK.2 ⟨2, .guard⟩ (by simp) rfl _ rfl
      have hG := hK.2 ⟨5, .data⟩ (by simp) rfl _ rfl
      exact mm_call 8 #[ac.tmps.getD 18 undef] (.agg (ar .u8 32 h)) rfl (wanted_of (d := 15) rfl (by kernel_rfl) hg) (by kernel_rfl) (HSM.out _ wx ((H4.out.below hC.1)).old hG) hC (by kernel_rfl) (by rw [hsz]; exact of_decide_eq_true (by kernel_rfl)) rfl
    · intro ac wx hC hsz hK
      have hg : ac.tmps.getD 15 undef = .bool false := hK.2 ⟨2, .guard⟩ (by simp) rfl _ rfl
      have h0 : ac.tmps.getD 5 undef = (.pointer (some ⟨B, 0, none⟩)) := hK.1 5 (by kernel_rfl)
      exact mm_load 25 (.tmp 5) ((.pointer (some ⟨B, 0, none⟩))) ((.agg (ar .u8 32 h))) rfl rfl (wanted_of (d := 15) rfl (by kernel_rfl) hg) h0 (ld32 ((H4.out.below hC.1)).rb) hC (by kernel_rfl) (by rw [hsz]; exact of_decide_eq_true (by kernel_rfl)) rfl
    · intro ac wx hC hsz hK
      have hg : ac.tmps.getD 15 undef = .bool false := hK.2 ⟨2, .guard⟩ (by simp) rfl _ rfl
      have h0 : ac.tmps.getD 19 undef = (.agg (ar .u8 32 h)) := hK.2 ⟨6, .data⟩ (by simp) rfl _ rfl
      have h1 : ac.tmps.getD 20 undef = (.agg (ar .u8 32 h)) := hK.2 ⟨7, .data⟩ (by simp) rfl _ rfl
      exact mm_bin .neq 25 (.tmp 19) (.tmp 20) 25 ((.agg (ar .u8 32 h))) ((.agg (ar .u8 32 h))) (.bool false) rfl rfl (wanted_of (d := 15) rfl (by kernel_rfl) hg) h0 h1 (by kernel_rfl) (ne32 _ wx) hC (by kernel_rfl) (by rw [hsz]; exact of_decide_eq_true (by kernel_rfl)) rfl
    · intro ac wx hC hsz hK
      have h0 : ac.tmps.getD 15 undef = .bool false := hK.2 ⟨2, .data⟩ (by simp) rfl _ rfl
      have h2 : ac.tmps.getD 21 undef = .bool false := hK.2 ⟨8, .data⟩ (by simp) rfl _ rfl
      exact mm_val (.bool false) rfl (by kernel_rfl) (run_pick (.tmp 15) (.const (.bool true)) (.tmp 21) false (.bool false) rfl h0 (h2)) hC (by kernel_rfl) (by rw [hsz]; exact of_decide_eq_true (by kernel_rfl)) rfl
  intro f3 w5 hb5 hap hf3
  have s22 := hf3 9 _ rfl
  have H5 := Lib.hid (H4.out.below hb5)
  clear hf3 hap hb5 H4 HSM
  generalize hAct : putAll _ _ _ = A1 at *
  have s22' : A1.tmps.getD 22 undef = .bool false := s22
  have s0 : A1.tmps.getD 0 undef = .slice a n cap := by subst hAct; kernel_rfl
  have s1 : A1.tmps.getD 1 undef = .slice au m cu := by subst hAct; kernel_rfl
  have s4 : A1.tmps.getD 4 undef = .bool false := by subst hAct; kernel_rfl
  have s5 : A1.tmps.getD 5 undef = .pointer (some ⟨B, 0, none⟩) := by subst hAct; kernel_rfl
  have s6 : A1.tmps.getD 6 undef = .pointer (some ⟨V, 0, none⟩) := by subst hAct; kernel_rfl
  have hsz : A1.tmps.size = 75 := by rw [← hAct, putAll_size]; rfl
  have hdf : A1.defers = [] := by subst hAct; kernel_rfl
  clear hAct s22 f3
  obtain ⟨u2, t2⟩ : ∃ u, A1.tmps.getD 2 undef = u := ⟨_, rfl⟩
  obtain ⟨u3, t3⟩ : ∃ u, A1.tmps.getD 3 undef = u := ⟨_, rfl⟩
  obtain ⟨u7, t7⟩ : ∃ u, A1.tmps.getD 7 undef = u := ⟨_, rfl⟩
  obtain ⟨u8, t8⟩ : ∃ u, A1.tmps.getD 8 undef = u := ⟨_, rfl⟩
  obtain ⟨u9, t9⟩ : ∃ u, A1.tmps.getD 9 undef = u := ⟨_, rfl⟩
  obtain ⟨u10, t10⟩ : ∃ u, A1.tmps.getD 10 undef = u := ⟨_, rfl⟩
  obtain ⟨u11, t11⟩ : ∃ u, A1.tmps.getD 11 undef = u := ⟨_, rfl⟩
  obtain ⟨u12, t12⟩ : ∃ u, A1.tmps.getD 12 undef = u := ⟨_, rfl⟩
  obtain ⟨u13, t13⟩ : ∃ u, A1.tmps.getD 13 undef = u := ⟨_, rfl⟩
  obtain ⟨u14, t14⟩ : ∃ u, A1.tmps.getD 14 undef = u := ⟨_, rfl⟩
  obtain ⟨u15, t15⟩ : ∃ u, A1.tmps.getD 15 undef = u := ⟨_, rfl⟩
  obtain ⟨u16, t16⟩ : ∃ u, A1.tmps.getD 16 undef = u := ⟨_, rfl⟩
  obtain ⟨u17, t17⟩ : ∃ u, A1.tmps.getD 17 undef = u := ⟨_, rfl⟩
  obtain ⟨u18, t18⟩ : ∃ u, A1.tmps.getD 18 undef = u := ⟨_, rfl⟩
  obtain ⟨u19, t19⟩ : ∃ u, A1.tmps.getD 19 undef = u := ⟨_, rfl⟩
  obtain ⟨u20, t20⟩ : ∃ u, A1.tmps.getD 20 undef = u := ⟨_, rfl⟩
  obtain ⟨u21, t21⟩ : ∃ u, A1.tmps.getD 21 undef = u := ⟨_, rfl⟩
  obtain ⟨u23, t23⟩ : ∃ u, A1.tmps.getD 23 undef = u := ⟨_, rfl⟩
  obtain ⟨u24, t24⟩ : ∃ u, A1.tmps.getD 24 undef = u := ⟨_, rfl⟩
  obtain ⟨u25, t25⟩ : ∃ u, A1.tmps.getD 25 undef = u := ⟨_, rfl⟩
  obtain ⟨u26, t26⟩ : ∃ u, A1.tmps.getD 26 undef = u := ⟨_, rfl⟩
  obtain ⟨u27, t27⟩ : ∃ u, A1.tmps.getD 27 undef = u := ⟨_, rfl⟩
  obtain ⟨u28, t28⟩ : ∃ u, A1.tmps.getD 28 undef = u := ⟨_, rfl⟩
  obtain ⟨u29, t29⟩ : ∃ u, A1.tmps.getD 29 undef = u := ⟨_, rfl⟩
  obtain ⟨u30, t30⟩ : ∃ u, A1.tmps.getD 30 undef = u := ⟨_, rfl⟩
  obtain ⟨u31, t31⟩ : ∃ u, A1.tmps.getD 31 undef = u := ⟨_, rfl⟩
  obtain ⟨u32, t32⟩ : ∃ u, A1.tmps.getD 32 undef = u := ⟨_, rfl⟩
  obtain ⟨u33, t33⟩ : ∃ u, A1.tmps.getD 33 undef = u := ⟨_, rfl⟩
  obtain ⟨u34, t34⟩ : ∃ u, A1.tmps.getD 34 undef = u := ⟨_, rfl⟩
  obtain ⟨u35, t35⟩ : ∃ u, A1.tmps.getD 35 undef = u := ⟨_, rfl⟩
  obtain ⟨u36, t36⟩ : ∃ u, A1.tmps.getD 36 undef = u := ⟨_, rfl⟩
  obtain ⟨u37, t37⟩ : ∃ u, A1.tmps.getD 37 undef = u := ⟨_, rfl⟩
  obtain ⟨u38, t38⟩ : ∃ u, A1.tmps.getD 38 undef = u := ⟨_, rfl⟩
  obtain ⟨u39, t39⟩ : ∃ u, A1.tmps.getD 39 undef = u := ⟨_, rfl⟩
  obtain ⟨u40, t40⟩ : ∃ u, A1.tmps.getD 40 undef = u := ⟨_, rfl⟩
  obtain ⟨u41, t41⟩ : ∃ u, A1.tmps.getD 41 undef = u := ⟨_, rfl⟩
  obtain ⟨u42, t42⟩ : ∃ u, A1.tmps.getD 42 undef = u := ⟨_, rfl⟩
  obtain ⟨u43, t43⟩ : ∃ u, A1.tmps.getD 43 undef = u := ⟨_, rfl⟩
  obtain ⟨u44, t44⟩ : ∃ u, A1.tmps.getD 44 undef = u := ⟨_, rfl⟩
  obtain ⟨u45, t45⟩ : ∃ u, A1.tmps.getD 45 undef = u := ⟨_, rfl⟩
  obtain ⟨u46, t46⟩ : ∃ u, A1.tmps.getD 46 undef = u := ⟨_, rfl⟩
  obtain ⟨u47, t47⟩ : ∃ u, A1.tmps.getD 47 undef = u := ⟨_, rfl⟩
  obtain ⟨u48, t48⟩ : ∃ u, A1.tmps.getD 48 undef = u := ⟨_, rfl⟩
  obtain ⟨u49, t49⟩ : ∃ u, A1.tmps.getD 49 undef = u := ⟨_, rfl⟩
  obtain ⟨u50, t50⟩ : ∃ u, A1.tmps.getD 50 undef = u := ⟨_, rfl⟩
  obtain ⟨u51, t51⟩ : ∃ u, A1.tmps.getD 51 undef = u := ⟨_, rfl⟩
  obtain ⟨u52, t52⟩ : ∃ u, A1.tmps.getD 52 undef = u := ⟨_, rfl⟩
  obtain ⟨u53, t53⟩ : ∃ u, A1.tmps.getD 53 undef = u := ⟨_, rfl⟩
  obtain ⟨u54, t54⟩ : ∃ u, A1.tmps.getD 54 undef = u := ⟨_, rfl⟩
  obtain ⟨u55, t55⟩ : ∃ u, A1.tmps.getD 55 undef = u := ⟨_, rfl⟩
  obtain ⟨u56, t56⟩ : ∃ u, A1.tmps.getD 56 undef = u := ⟨_, rfl⟩
  obtain ⟨u57, t57⟩ : ∃ u, A1.tmps.getD 57 undef = u := ⟨_, rfl⟩
  obtain ⟨u58, t58⟩ : ∃ u, A1.tmps.getD 58 undef = u := ⟨_, rfl⟩
  obtain ⟨u59, t59⟩ : ∃ u, A1.tmps.getD 59 undef = u := ⟨_, rfl⟩
  obtain ⟨u60, t60⟩ : ∃ u, A1.tmps.getD 60 undef = u := ⟨_, rfl⟩
  obtain ⟨u61, t61⟩ : ∃ u, A1.tmps.getD 61 undef = u := ⟨_, rfl⟩
  obtain ⟨u62, t62⟩ : ∃ u, A1.tmps.getD 62 undef = u := ⟨_, rfl⟩
  obtain ⟨u63, t63⟩ : ∃ u, A1.tmps.getD 63 undef = u := ⟨_, rfl⟩
  obtain ⟨u64, t64⟩ : ∃ u, A1.tmps.getD 64 undef = u := ⟨_, rfl⟩
  obtain ⟨u65, t65⟩ : ∃ u, A1.tmps.getD 65 undef = u := ⟨_, rfl⟩
  obtain ⟨u66, t66⟩ : ∃ u, A1.tmps.getD 66 undef = u := ⟨_, rfl⟩
  obtain ⟨u67, t67⟩ : ∃ u, A1.tmps.getD 67 undef = u := ⟨_, rfl⟩
  obtain ⟨u68, t68⟩ : ∃ u, A1.tmps.getD 68 undef = u := ⟨_, rfl⟩
  obtain ⟨u69, t69⟩ : ∃ u, A1.tmps.getD 69 undef = u := ⟨_, rfl⟩
  obtain ⟨u70, t70⟩ : ∃ u, A1.tmps.getD 70 undef = u := ⟨_, rfl⟩
  obtain ⟨u71, t71⟩ : ∃ u, A1.tmps.getD 71 undef = u := ⟨_, rfl⟩
  obtain ⟨u72, t72⟩ : ∃ u, A1.tmps.getD 72 undef = u := ⟨_, rfl⟩
  obtain ⟨u73, t73⟩ : ∃ u, A1.tmps.getD 73 undef = u := ⟨_, rfl⟩
  obtain ⟨u74, t74⟩ : ∃ u, A1.tmps.getD 74 undef = u := ⟨_, rfl⟩
  obtain ⟨tm, df⟩ := A1
  simp only at *
  have hLt := arr_litT tm
  rw [hsz] at hLt
  simp only [List.range, List.range.loop, List.map] at hLt
  rw [s0, s1, t2, t3, s4, s5, s6, t7, t8, t9, t10, t11, t12, t13, t14, t15, t16, t17, t18, t19, t20, t21, s22', t23, t24, t25, t26, t27, t28, t29, t30, t31, t32, t33, t34, t35, t36, t37, t38, t39, t40, t41, t42, t43, t44, t45, t46, t47, t48, t49, t50, t51, t52, t53, t54, t55, t56, t57, t58, t59, t60, t61, t62, t63, t64, t65, t66, t67, t68, t69, t70, t71, t72, t73, t74] at hLt
  subst hLt hdf
  clear s0 s1 t2 t3 s4 s5 s6 t7 t8 t9 t10 t11 t12 t13 t14 t15 t16 t17 t18 t19 t20 t21 s22' t23 t24 t25 t26 t27 t28 t29 t30 t31 t32 t33 t34 t35 t36 t37 t38 t39 t40 t41 t42 t43 t44 t45 t46 t47 t48 t49 t50 t51 t52 t53 t54 t55 t56 t57 t58 t59 t60 t61 t62 t63 t64 t65 t66 t67 t68 t69 t70 t71 t72 t73 t74 hsz
  go_wp2_with fail
  go_loopw [7, 8] (fun p i wr => ∃ l k : Nat, l ≤ n ∧ k ≤ m ∧ p = .int .i64 l ∧ i = .int .i64 k ∧ Hid (CSu w V B h f l wr)) (fun _ i _ => m - (intOf i).toNat)
  case atStart => exact ⟨0, 0, by omega, by omega, rfl, rfl, H5⟩
  case round =>
    obtain ⟨l, k, hl, hk, rfl, rfl, H⟩ := hrel
    clear H5
    have hl0 : (0 : Int) ≤ l := by omega
    have hk0 : (0 : Int) ≤ k := by omega
    by_cases hkm : k < m
    · have hkm' : (k : Int) < m := by omega
      by_cases hln : l < n
      · have hln' : (l : Int) < n := by omega
        obtain ⟨bu, ou, rfl, hbu, hcu⟩ : ∃ b o, au = some ⟨b, o, none⟩ ∧ b < w.heap.size ∧ ∀ j, j < m → w.cell? ⟨b, o + j, none⟩ = some (.int .u16 (g j : Nat)) := by
          rcases HU.out with h0 | h0
          · omega
          · exact h0
        have cg := (H.out.old.cell (p := ⟨bu, ou + k, none⟩) hbu).trans (hcu k hkm)
        have hgk := HF.out.2.1 k
        obtain ⟨y, hy⟩ : ∃ y, g k = y := ⟨_, rfl⟩
        rw [hy] at cg hgk
        obtain ⟨d, hd⟩ : ∃ d : Nat, (n : Int) - (l : Int) + 1 = (d : Int) := ⟨n - l + 1, by omega⟩
        have hd0 : (0 : Int) < d := by omega
        have hdz : ((d : Int) == 0) = false := by simp; omega
        have hdn : ¬ d = 0 := by omega
        obtain ⟨r, hr⟩ : ∃ r : Nat, (y : Int) % (d : Int) = (r : Int) := ⟨y % d, by omega⟩
        have hrd : r < d := by have := Nat.mod_lt y (show 0 < d by omega); omega
        have hlr : l + r ≤ n := by omega
        have hwy : IntKind.i64.wrap (y : Int) = (y : Int) := by rw [IntKind.wrap_i64]; omega
        have hmr : ∀ w, (binOp BinOp.rem 3 (.int .i64 (y : Nat)) (.int .i64 (d : Nat))).run Tryd.prog w = .ok (.int .i64 (r : Nat)) w := by
          have e1 : (y : Int).tmod d = (r : Int) := by rw [Int.tmod_eq_emod_of_nonneg (by omega)]; exact hr
          have e3 : IntKind.i64.wrap (r : Int) = r := by rw [IntKind.wrap_i64]; omega
          intro w
          go_simp
        obtain ⟨q, hq⟩ : ∃ q : Nat, l + r = q := ⟨_, rfl⟩
        have hq1 : (l : Int) + (r : Int) = (q : Int) := by omega
        have hix : ∀ w, (Instr.indexAt 23 (.slice (some ⟨bu, ou, none⟩) m cu) (.int .i64 (k : Nat))).run Tryd.prog w = .ok (.pointer (some ⟨bu, ou + k, none⟩)) w := fun w => by go_simp
        obtain ⟨a', hsl, har⟩ := arg_sub (a := a) (n := n) (cap := cap) (l := l) (m := r) hlr HF.out.2.2.1
        obtain ⟨g5, c5, w5, hap, hrd5, hse5, hck⟩ := part_of H.out HP.out HF.out.2.2.2.1 hlr a' (cap - l) (har w f)
        have hbd : n ≤ 1048576 := HF.out.2.2.2.1
        rw [hq] at hsl
        have HAP := Lib.hid hap
        have HAD := Lib.hid (show ∀ w, (binOp BinOp.add 3 (.int .i64 l) (.int .i64 r)).run Tryd.prog w = .ok (.int .i64 (q : Nat)) w from by
          have e3 : IntKind.i64.wrap (q : Int) = q := by rw [IntKind.wrap_i64]; omega
          intro w
          go_simp)
        have H5 := Lib.hid hck
        have WR := Lib.hid (hwrite (V := V) (m := l) (n := r) (f := f) (by omega) HF.out.1 w5 (stab_below HT.out hck.old) (sapt_of HT.out H.out.hV) hrd5 hse5 hck.dg)
        rw [hq] at WR
        have hql : q ≤ n := by omega
        have hq0 : (0 : Int) ≤ q := by omega
        clear hcu hbu hy hap hck hrd5 hse5 har hq hrd hgk
        go_upto_region 10 with fail
        (try rw [hr])
        refine region_list ?_
        refine wpList_val (w' := wr) rfl (.pointer (some ⟨V, 0, none⟩)) (by kernel_rfl) ?_
        refine wpList_val (w' := wr.alloc (.cells #[] 5)) rfl (.slice (some ⟨wr.heap.size, 0, none⟩) 0 0) (by kernel_rfl) ?_
        refine wpList_val (w' := wr.alloc (.cells #[] 5)) rfl (.slice a n cap) (by kernel_rfl) ?_
        refine wpList_val (w' := wr.alloc (.cells #[] 5)) rfl (.int .i64 l) (by kernel_rfl) ?_
        refine wpList_val (w' := wr.alloc (.cells #[] 5)) rfl (.int .i64 l) (by kernel_rfl) ?_
        refine wpList_val (w' := wr.alloc (.cells #[] 5)) rfl (.int .i64 r) (by kernel_rfl) ?_
        refine wpList_sem rfl (binOp BinOp.add 3 (.int .i64 l) (.int .i64 r)) (.int .i64 (q : Nat)) (by kernel_rfl) (HAD.out _) ?_
        refine wpList_sem rfl (Instr.sliceAt 22 (.slice a n cap) (some (.int .i64 (l : Int))) (some (.int .i64 (q : Int))) none) (.slice a' r (cap - l)) (by kernel_rfl) (hsl _) ?_
        simp only [Act.put, List.setIfInBounds_toArray, List.set_cons_succ, List.set_cons_zero]
        refine wpList_val (w' := w5) rfl (.slice (some ⟨g5, 0, none⟩) r c5) (run_app (.tmp 47) (.tmp 53) (.slice (some ⟨wr.heap.size, 0, none⟩) 0 0) (.slice a' r (cap - l)) _ (by kernel_rfl) (by kernel_rfl) (by kernel_rfl) (by kernel_rfl) HAP.out) ?_
        simp only [Act.put, List.setIfInBounds_toArray, List.set_cons_succ, List.set_cons_zero]
        go_wp2_with fail
        refine WR.out.mono ?_
        rintro e w6 ⟨rfl, hw⟩
        have H6 := Lib.hid (H5.out.wrote hw)
        clear hw WR HAP H5 H hsl hmr hix cg
        have HSQ := Lib.hid (HSS.out B h w6 V q hql H6.out)
        clear hd0 hdz hdn hd
        go_wp2_with fail
        refine HSQ.out.mono ?_
        rintro e w7 ⟨rfl, hb7⟩
        have H7 := Lib.hid (H6.out.below hb7)
        clear hb7 HSQ H6
        go_wp2_with fail
        go_roundw
        case rel => exact ⟨q, k + 1, by omega, by omega, rfl, by go_num, H7⟩
        case measure => simp [intOf]; omega
      · have hln' : ¬ (l : Int) < n := by omega
        obtain ⟨a', hsl, har⟩ := arg_from (a := a) (n := n) (cap := cap) (m := l) hl HF.out.2.2.1
        obtain ⟨g5, c5, w5, hap, hrd5, hse5, hck⟩ := part_of H.out HP.out HF.out.2.2.2.1 (l := l) (r := n - l) (by omega) a' (cap - l) (har w f)
        have HAP := Lib.hid hap
        have H5 := Lib.hid hck
        have hbd : n ≤ 1048576 := HF.out.2.2.2.1
        have WR := Lib.hid (hwrite (V := V) (m := l) (n := n - l) (f := f) (by omega) HF.out.1 w5 (stab_below HT.out hck.old) (sapt_of HT.out H.out.hV) hrd5 hse5 hck.dg)
        rw [show l + (n - l) = n by omega] at WR
        have HSN := Lib.hid (fun wx c => HSS.out B h wx V n (Nat.le_refl _) c)
        rw [HH.out] at HSN
        clear hap hck hrd5 hse5 har hbd
        go_upto_region 13 with fail
        refine region_list ?_
        refine wpList_val (w' := wr) rfl (.pointer (some ⟨V, 0, none⟩)) (by kernel_rfl) ?_
        refine wpList_val (w' := wr.alloc (.cells #[] 5)) rfl (.slice (some ⟨wr.heap.size, 0, none⟩) 0 0) (by kernel_rfl) ?_
        refine wpList_val (w' := wr.alloc (.cells #[] 5)) rfl (.slice a n cap) (by kernel_rfl) ?_
        refine wpList_val (w' := wr.alloc (.cells #[] 5)) rfl (.int .i64 l) (by kernel_rfl) ?_
        refine wpList_sem rfl (Instr.sliceAt 22 (.slice a n cap) (some (.int .i64 (l : Int))) none none) (.slice a' (n - l) (cap - l)) (by kernel_rfl) (hsl _) ?_
        simp only [Act.put, List.setIfInBounds_toArray, List.set_cons_succ, List.set_cons_zero]
        refine wpList_val (w' := w5) rfl (.slice (some ⟨g5, 0, none⟩) (n - l) c5) (run_app (.tmp 62) (.tmp 65) (.slice (some ⟨wr.heap.size, 0, none⟩) 0 0) (.slice a' (n - l) (cap - l)) _ (by kernel_rfl) (by kernel_rfl) (by kernel_rfl) (by kernel_rfl) HAP.out) ?_
        simp only [Act.put, List.setIfInBounds_toArray, List.set_cons_succ, List.set_cons_zero]
        go_wp2_with fail
        refine WR.out.mono ?_
        rintro e w6 ⟨rfl, hw⟩
        have H6 := Lib.hid (H5.out.wrote hw)
        clear hw WR HAP H5 H hsl
        go_wp2_with fail
        refine wp_region_quiet (C := CSu w V B h f n) (by kernel_rfl) (by kernel_rfl) H6.out.drew ?_
        with_reducible refine q_val (.pointer (some ⟨V, 0, none⟩)) (by kernel_rfl) (fun _ _ => by kernel_rfl) ?_
        with_reducible refine q_call 10 #[.pointer (some ⟨V, 0, none⟩)] (.agg (ar .u8 32 h)) (by kernel_rfl) (fun _ => by kernel_rfl) (fun wx c => (HSN.out wx c).mono fun e w' hh => ⟨hh.1, c.below hh.2⟩) ?_
        with_reducible refine q_load 25 (.tmp 5) (.pointer (some ⟨B, 0, none⟩)) (.agg (ar .u8 32 h)) rfl (by kernel_rfl) (by kernel_rfl) (fun _ c => ld32 c.rb) ?_
        with_reducible refine q_bin .eql 25 _ _ 25 (.agg (ar .u8 32 h)) (.agg (ar .u8 32 h)) (.bool true) rfl (by kernel_rfl) (by kernel_rfl) (by kernel_rfl) (fun _ => eqg32 _ _ _ _ _) (fun _ => eq32 _ _) ?_
        with_reducible refine q_val (.bool true) (by kernel_rfl) (fun _ _ => by kernel_rfl) ?_
        with_reducible refine q_call 11 #[] (.bool true) (by kernel_rfl) (fun _ => by kernel_rfl) (fun wx c => (HLV.out wx c.old).mono fun e w' hh => ⟨hh.1, c.below hh.2⟩) ?_
        with_reducible refine q_val (.bool true) (by kernel_rfl) (fun _ _ => by kernel_rfl) ?_
        with_reducible refine q_val (.bool true) (by kernel_rfl) (fun _ _ => by kernel_rfl) ?_
        with_reducible refine wpQuiet_nil ?_
        intro w7 hC
        simp only [Act.put, List.setIfInBounds_toArray, List.set_cons_succ, List.set_cons_zero]
        have HB7 := Lib.hid hC.old
        clear hC H6
        go_wp2_with fail
        go_ret
        exact ⟨rfl, HB7.out⟩
    · have hkm' : ¬ (k : Int) < m := by omega
      obtain ⟨a', hsl, har⟩ := arg_from (a := a) (n := n) (cap := cap) (m := l) hl HF.out.2.2.1
      obtain ⟨g5, c5, w5, hap, hrd5, hse5, hck⟩ := part_of H.out HP.out HF.out.2.2.2.1 (l := l) (r := n - l) (by omega) a' (cap - l) (har w f)
      have HAP := Lib.hid hap
      have H5 := Lib.hid hck
      have hbd : n ≤ 1048576 := HF.out.2.2.2.1
      have WR := Lib.hid (hwrite (V := V) (m := l) (n := n - l) (f := f) (by omega) HF.out.1 w5 (stab_below HT.out hck.old) (sapt_of HT.out H.out.hV) hrd5 hse5 hck.dg)
      rw [show l + (n - l) = n by omega] at WR
      have HSN := Lib.hid (fun wx c => HSS.out B h wx V n (Nat.le_refl _) c)
      rw [HH.out] at HSN
      clear hap hck hrd5 hse5 har hbd
      go_upto_region 13 with fail
      refine region_list ?_
      refine wpList_val (w' := wr) rfl (.pointer (some ⟨V, 0, none⟩)) (by kernel_rfl) ?_
      refine wpList_val (w' := wr.alloc (.cells #[] 5)) rfl (.slice (some ⟨wr.heap.size, 0, none⟩) 0 0) (by kernel_rfl) ?_
      refine wpList_val (w' := wr.alloc (.cells #[] 5)) rfl (.slice a n cap) (by kernel_rfl) ?_
      refine wpList_val (w' := wr.alloc (.cells #[] 5)) rfl (.int .i64 l) (by kernel_rfl) ?_
      refine wpList_sem rfl (Instr.sliceAt 22 (.slice a n cap) (some (.int .i64 (l : Int))) none none) (.slice a' (n - l) (cap - l)) (by kernel_rfl) (hsl _) ?_
      simp only [Act.put, List.setIfInBounds_toArray, List.set_cons_succ, List.set_cons_zero]
      refine wpList_val (w' := w5) rfl (.slice (some ⟨g5, 0, none⟩) (n - l) c5) (run_app (.tmp 62) (.tmp 65) (.slice (some ⟨wr.heap.size, 0, none⟩) 0 0) (.slice a' (n - l) (cap - l)) _ (by kernel_rfl) (by kernel_rfl) (by kernel_rfl) (by kernel_rfl) HAP.out) ?_
      simp only [Act.put, List.setIfInBounds_toArray, List.set_cons_succ, List.set_cons_zero]
      go_wp2_with fail
      refine WR.out.mono ?_
      rintro e w6 ⟨rfl, hw⟩
      have H6 := Lib.hid (H5.out.wrote hw)
      clear hw WR HAP H5 H hsl
      go_wp2_with fail
      refine wp_region_quiet (C := CSu w V B h f n) (by kernel_rfl) (by kernel_rfl) H6.out.drew ?_
      with_reducible refine q_val (.pointer (some ⟨V, 0, none⟩)) (by kernel_rfl) (fun _ _ => by kernel_rfl) ?_
      with_reducible refine q_call 10 #[.pointer (some ⟨V, 0, none⟩)] (.agg (ar .u8 32 h)) (by kernel_rfl) (fun _ => by kernel_rfl) (fun wx c => (HSN.out wx c).mono fun e w' hh => ⟨hh.1, c.below hh.2⟩) ?_
      with_reducible refine q_load 25 (.tmp 5) (.pointer (some ⟨B, 0, none⟩)) (.agg (ar .u8 32 h)) rfl (by kernel_rfl) (by kernel_rfl) (fun _ c => ld32 c.rb) ?_
      with_reducible refine q_bin .eql 25 _ _ 25 (.agg (ar .u8 32 h)) (.agg (ar .u8 32 h)) (.bool true) rfl (by kernel_rfl) (by kernel_rfl) (by kernel_rfl) (fun _ => eqg32 _ _ _ _ _) (fun _ => eq32 _ _) ?_
      with_reducible refine q_val (.bool true) (by kernel_rfl) (fun _ _ => by kernel_rfl) ?_
      with_reducible refine q_call 11 #[] (.bool true) (by kernel_rfl) (fun _ => by kernel_rfl) (fun wx c => (HLV.out wx c.old).mono fun e w' hh => ⟨hh.1, c.below hh.2⟩) ?_
      with_reducible refine q_val (.bool true) (by kernel_rfl) (fun _ _ => by kernel_rfl) ?_
      with_reducible refine q_val (.bool true) (by kernel_rfl) (fun _ _ => by kernel_rfl) ?_
      with_reducible refine wpQuiet_nil ?_
      intro w7 hC
      simp only [Act.put, List.setIfInBounds_toArray, List.set_cons_succ, List.set_cons_zero]
      have HB7 := Lib.hid hC.old
      clear hC H6
      go_wp2_with fail
      go_ret
      exact ⟨rfl, HB7.out⟩
end Go.Proofs.YtkecehcnoihiiaaDoor
namespace Go.Proofs.YtkecehcnoihiiaaDoor
open Go.RowKit

theorem DgAt.other {w wx w' : World} {U V m : Nat} {g : Nat → Nat} (h : DgAt w U g m wx) (hb : Bt V wx w') (hne : U ≠ V) : DgAt w' U g m w' := by
  obtain ⟨l, h1, h2, h3⟩ := h
  exact ⟨l, h1, h2, Bt.refl _ _, (hb.block _ hne (Array.getElem?_eq_some_iff.1 h3.row).1).trans h3.row⟩
/-- The worlds of the law: two digests, at V and at U. -/
structure CAp (w : World) (V U : Nat) (f g : Nat → Nat) (l m : Nat) (wx : World) : Prop where
  old : Below w.heap.size w wx
  ds : DgAt wx V f l wx
  dt : DgAt wx U g m wx
  hV : w.heap.size ≤ V
  hU : w.heap.size ≤ U
  ne : U ≠ V
section
variable {w wx w' : World} {V U l m : Nat} {f g : Nat → Nat}
theorem CAp.below (c : CAp w V U f g l m wx) (hb : Below wx.heap.size wx w') : CAp w V U f g l m w' :=
  ⟨c.old.trans (hb.mono c.old.size), (c.ds.keep hb).base, (c.dt.keep hb).base, c.hV, c.hU, c.ne⟩
theorem CAp.wroteS {l' : Nat} (c : CAp w V U f g l m wx) (hw : DgAt wx V f l' w') : CAp w V U f g l' m w' :=
  ⟨hw.bt.below c.old c.hV c.old.size, hw.base, c.dt.other hw.bt c.ne, c.hV, c.hU, c.ne⟩
theorem CAp.wroteT {m' : Nat} (c : CAp w V U f g l m wx) (hw : DgAt wx U g m' w') : CAp w V U f g l m' w' :=
  ⟨hw.bt.below c.old c.hU c.old.size, c.ds.other hw.bt (Ne.symm c.ne), hw.base, c.hV, c.hU, c.ne⟩
end
/-- A byte alone, in a fresh block. -/
theorem one_arg {w : World} {f : Nat → Nat} {k y : Nat} (hy : f k = y) : ArgB (w.alloc (.cells #[.int .u8 (y : Nat)] 5)) (.slice (some ⟨w.heap.size, 0, none⟩) 1 1) 1 (fun j => f (k + j)) := by
  refine ⟨_, 1, rfl, Nat.le_refl _, (fun e => by cases e), .inr ⟨w.heap.size, 0, rfl, by simp, fun j hj => ?_⟩⟩
  obtain rfl : j = 0 := by omega
  refine (cell_of_row _ _ _ _ _ _ (heap_alloc_new w _)).trans ?_
  simp [hy]
theorem one_sep {w : World} {V : Nat} (hV : V < w.heap.size) : ∀ a cap, Value.slice (some ⟨w.heap.size, 0, none⟩) 1 1 = .slice a 1 cap → 0 < 1 → ∀ b o, a = some ⟨b, o, none⟩ → b ≠ V := fun a cap e _ b o e2 => by
  cases e
  cases e2
  omega
set_option maxRecDepth 100000 in
set_option maxHeartbeats 4000000 in
-- THE LAW.
theorem sapart_any {n m : Nat} {f g : Nat → Nat} {v u : Value} {each : Nat} {w : World} (hn : n ≤ 1048576) (hf : ∀ j, f j < 256) (hm : m ≤ 1048576) (hg : ∀ j, g j < 256) (he : each < 256) (hT : STab w) (hP : ArgB w v n f) (hU : ArgB w u m g) : Calls Tryd.prog 5 #[v, u, .int .u8 (each : Nat)] w fun e w' => e = .returned (.bool true) ∧ Below w.heap.size w w' := by
  have HPA := Lib.hid hP
  have HPB := Lib.hid hU
  obtain ⟨a, ca, rfl, -, -, hra⟩ := hP
  obtain ⟨b, cb, rfl, -, -, hrb⟩ := hU
  have HT := Lib.hid hT
  have HRA := Lib.hid hra
  have HRB := Lib.hid hrb
  have HF := Lib.hid (And.intro hf (And.intro hg (And.intro hn hm)))
  have HSA := Lib.hid (fun wx (c : Below w.heap.size w wx) => rsum_any hash_is (show n < 1500000 by omega) hf (HPA.out.below c))
  have HSB := Lib.hid (fun wx (c : Below w.heap.size w wx) => rsum_any hash_is (show m < 1500000 by omega) hg (HPB.out.below c))
  have HLV : Hid (∀ wx, Below w.heap.size w wx → Calls Tryd.prog 11 #[] wx fun e w' => e = .returned (.bool true) ∧ Below wx.heap.size wx w') := Lib.hid fun wx hb => slives wx (stab_below HT.out hb)
  have HDS : Hid (∀ wx V U l q, l ≤ 1048576 → CAp w V U f g l q wx → Calls Tryd.prog 10 #[.pointer (some ⟨V, 0, none⟩)] wx fun e w' => e = .returned (.agg (ar .u8 32 (shaH f l))) ∧ Below wx.heap.size wx w') := Lib.hid fun wx V U l q hl c => hdsum (by omega) hf wx (stab_below HT.out c.old) c.ds
  have HDT : Hid (∀ wx V U l q, q ≤ 1048576 → CAp w V U f g l q wx → Calls Tryd.prog 10 #[.pointer (some ⟨U, 0, none⟩)] wx fun e w' => e = .returned (.agg (ar .u8 32 (shaH g q))) ∧ Below wx.heap.size wx w') := Lib.hid fun wx V U l q hl c => hdsum (by omega) hg wx (stab_below HT.out c.old) c.dt
  obtain ⟨s, hs⟩ : ∃ s : Nat, 1 + each % 40 = s := ⟨_, rfl⟩
  obtain ⟨s1, hs1⟩ : ∃ s : Nat, each % 40 = s := ⟨_, rfl⟩
  have e0 : (0 : Int) ≤ each := by omega
  have e1 : (each : Int) % 40 = (s1 : Int) := by omega
  have e1t : (each : Int).tmod 40 = (s1 : Int) := by rw [Int.tmod_eq_emod_of_nonneg (by omega)]; exact e1
  have e2 : (1 : Int) + (s1 : Int) = (s : Int) := by omega
  have w0 : IntKind.i64.wrap (each : Int) = each := by rw [IntKind.wrap_i64]; omega
  have w1 : IntKind.i64.wrap (s1 : Int) = s1 := by rw [IntKind.wrap_i64]; omega
  have w2 : IntKind.i64.wrap (s : Int) = s := by rw [IntKind.wrap_i64]; omega
  have HS := Lib.hid (show 1 ≤ s ∧ s ≤ 40 from by omega)
  have hn0 : (0 : Int) ≤ n := by omega
  have hm0 : (0 : Int) ≤ m := by omega
  clear hT hra hrb hf hg hs hs1 he
  go_enter Tryd.func5, Tryd.ntmps5
  go_wp2_with fail
  refine (hnew w).mono ?_
  rintro e w3 ⟨V, rfl, hV, hb3, hr3⟩
  have hV3 := (Array.getElem?_eq_some_iff.1 hr3).1
  have H3 := Lib.hid (And.intro hV (And.intro hb3 (And.intro hr3 hV3)))
  clear hV hb3 hr3 hV3
  go_wp2_with fail
  refine (hnew w3).mono ?_
  rintro e w4 ⟨U, rfl, hU, hb4, hr4⟩
  have H4 := Lib.hid (show CAp w V U f g 0 0 w4 from ⟨H3.out.2.1.trans (hb4.mono H3.out.2.1.size), dg_new f ((hb4.block _ H3.out.2.2.2).trans H3.out.2.2.1), dg_new g hr4, H3.out.1, Nat.le_trans H3.out.2.1.size hU, by have := H3.out.2.2.2; omega⟩)
  clear hU hb4 hr4 H3
  go_wp2_with fail
  clear e0 e1 e1t e2 w0 w1 w2
  go_loopw [10] (fun i wr => ∃ k : Nat, k ≤ 1048616 ∧ i = .int .i64 (k : Nat) ∧ Hid (CAp w V U f g (min k n) (min k m) wr)) (fun i _ => n + m - (intOf i).toNat)
  case atStart => exact ⟨0, by omega, rfl, by rw [Nat.zero_min, Nat.zero_min]; exact H4⟩
  case round =>
    obtain ⟨i, hi, rfl, H⟩ := hrel
    clear H4
    have hi0 : (0 : Int) ≤ i := by omega
    by_cases hin : i < n ∨ i < m
    · have HIN := Lib.hid hin
      have hor : ((i : Int) < n) ∨ ¬ ((i : Int) < n) ∧ (i : Int) < m := by omega
      obtain ⟨q, hq⟩ : ∃ q : Nat, i + s = q := ⟨_, rfl⟩
      have hq1 : (i : Int) + (s : Int) = (q : Int) := by omega
      have hqw : IntKind.i64.wrap (q : Int) = q := by rw [IntKind.wrap_i64]; have := HS.out; omega
      have HQB := Lib.hid (show q ≤ 1048616 ∧ i < q ∧ i + s = q from by have := HS.out; omega)
      clear hin hq
      rcases hor with ha | ⟨ha, hb⟩
      · go_wp2_with fail
        go_loopw [11] (fun x wz => ∃ k : Nat, i ≤ k ∧ k ≤ q ∧ x = .int .i64 (k : Nat) ∧ Hid (CAp w V U f g (min k n) (min k m) wz)) (fun x _ => q - (intOf x).toNat)
        case atStart => exact ⟨i, Nat.le_refl _, by have := HQB.out.2.1; omega, rfl, H⟩
        case round =>
          obtain ⟨k, hik, hkq, rfl, H1⟩ := hrel
          clear H
          have hk0 : (0 : Int) ≤ k := by omega
          have HKB := Lib.hid (show i ≤ k ∧ k ≤ q ∧ q ≤ 1048616 from ⟨hik, hkq, HQB.out.1⟩)
          by_cases hlt : k < q
          · have hlt' : (k : Int) < q := by omega
            have hkw : IntKind.i64.wrap ((k : Int) + 1) = (k : Int) + 1 := by rw [IntKind.wrap_i64]; have := HKB.out.2.2; omega
            clear hik hkq
            by_cases hkn : k < n
            · have hka : (k : Int) < n := by omega
              obtain ⟨p, hix, hpl, hpc⟩ := RdB.at_ HRA.out ca k (by omega)
              have cp := (H1.out.old.cell hpl).trans hpc
              obtain ⟨y, hy⟩ : ∃ y, f k = y := ⟨_, rfl⟩
              rw [hy] at cp
              have em : min k n = k := by omega
              have em1 : k + 1 = min (k + 1) n := by omega
              have c0 := H1.out
              rw [em] at c0
              have hal : Below (wr).heap.size (wr) ((wr).alloc (.cells #[.int .u8 (y : Nat)] 5)) := (Below.refl _ _).alloc (Nat.le_refl _) _
              have c1 := Lib.hid (c0.below hal)
              have WR := Lib.hid (hwrite (V := V) (m := k) (n := 1) (f := f) (by omega) HF.out.1 _ (stab_below HT.out c1.out.old) (sapt_of HT.out c0.hV) (one_arg hy) (one_sep c0.ds.lt) c1.out.ds)
              clear hpl hpc hy em hal c0 H1
              go_wp2_with fail
              refine WR.out.mono ?_
              rintro e w5 ⟨rfl, hw⟩
              have H2 := Lib.hid (c1.out.wroteS (l' := min (k + 1) n) (by rw [← em1]; exact hw))
              clear hw WR c1 em1 cp hix
              by_cases hkm : k < m
              · have hkb : (k : Int) < m := by omega
                obtain ⟨p, hix, hpl, hpc⟩ := RdB.at_ HRB.out cb k (by omega)
                have cp := (H2.out.old.cell hpl).trans hpc
                obtain ⟨y, hy⟩ : ∃ y, g k = y := ⟨_, rfl⟩
                rw [hy] at cp
                have em : min k m = k := by omega
                have em1 : k + 1 = min (k + 1) m := by omega
                have c0 := H2.out
                rw [em] at c0
                have hal : Below (w5).heap.size (w5) ((w5).alloc (.cells #[.int .u8 (y : Nat)] 5)) := (Below.refl _ _).alloc (Nat.le_refl _) _
                have c1 := Lib.hid (c0.below hal)
                have WR := Lib.hid (hwrite (V := U) (m := k) (n := 1) (f := g) (by omega) HF.out.2.1 _ (stab_below HT.out c1.out.old) (sapt_of HT.out c0.hU) (one_arg hy) (one_sep c0.dt.lt) c1.out.dt)
                clear hpl hpc hy em hal c0 H2
                go_wp2_with fail
                refine WR.out.mono ?_
                rintro e w6 ⟨rfl, hw⟩
                have H3 := Lib.hid (c1.out.wroteT (m' := min (k + 1) m) (by rw [← em1]; exact hw))
                clear hw WR c1 em1 cp hix
                go_wp2_with fail
                go_roundw
                case rel => exact ⟨k + 1, by have := HKB.out.1; omega, by omega, by go_num, H3⟩
                case measure => simp [intOf]; omega
              · have hkm' : ¬ ((k : Int) < m) := by omega
                have e2 : min k m = min (k + 1) m := by omega
                rw [e2] at H2
                clear e2
                go_wp2_with fail
                go_roundw
                case rel => exact ⟨k + 1, by have := HKB.out.1; omega, by omega, by go_num, H2⟩
                case measure => simp [intOf]; omega
            · have hkn' : ¬ ((k : Int) < n) := by omega
              have e1 : min k n = min (k + 1) n := by omega
              rw [e1] at H1
              have H2 := H1
              clear e1 H1
              by_cases hkm : k < m
              · have hkb : (k : Int) < m := by omega
                obtain ⟨p, hix, hpl, hpc⟩ := RdB.at_ HRB.out cb k (by omega)
                have cp := (H2.out.old.cell hpl).trans hpc
                obtain ⟨y, hy⟩ : ∃ y, g k = y := ⟨_, rfl⟩
                rw [hy] at cp
                have em : min k m = k := by omega
                have em1 : k + 1 = min (k + 1) m := by omega
                have c0 := H2.out
                rw [em] at c0
                have hal : Below (wr).heap.size (wr) ((wr).alloc (.cells #[.int .u8 (y : Nat)] 5)) := (Below.refl _ _).alloc (Nat.le_refl _) _
                have c1 := Lib.hid (c0.below hal)
                have WR := Lib.hid (hwrite (V := U) (m := k) (n := 1) (f := g) (by omega) HF.out.2.1 _ (stab_below HT.out c1.out.old) (sapt_of HT.out c0.hU) (one_arg hy) (one_sep c0.dt.lt) c1.out.dt)
                clear hpl hpc hy em hal c0 H2
                go_wp2_with fail
                refine WR.out.mono ?_
                rintro e w6 ⟨rfl, hw⟩
                have H3 := Lib.hid (c1.out.wroteT (m' := min (k + 1) m) (by rw [← em1]; exact hw))
                clear hw WR c1 em1 cp hix
                go_wp2_with fail
                go_roundw
                case rel => exact ⟨k + 1, by have := HKB.out.1; omega, by omega, by go_num, H3⟩
                case measure => simp [intOf]; omega
              · have hkm' : ¬ ((k : Int) < m) := by omega
                have e2 : min k m = min (k + 1) m := by omega
                rw [e2] at H2
                clear e2
                go_wp2_with fail
                go_roundw
                case rel => exact ⟨k + 1, by have := HKB.out.1; omega, by omega, by go_num, H2⟩
                case measure => simp [intOf]; omega
          · obtain rfl : k = q := by omega
            have hlt' : ¬ ((k : Int) < k) := by omega
            have HSS := Lib.hid (HDS.out _ V U (min k n) (min k m) (by have := HF.out.2.2.1; omega) H1.out)
            clear hik hkq
            go_wp2_with fail
            refine HSS.out.mono ?_
            rintro e w5 ⟨rfl, hb5⟩
            have H5 := Lib.hid (H1.out.below hb5)
            clear hb5 H1 HSS
            go_wp2_with fail
            go_roundw
            case rel => exact ⟨k, HQB.out.1, rfl, H5⟩
            case measure => simp [intOf]; have := HQB.out.2.1; have := HIN.out; omega
      · go_wp2_with fail
        go_loopw [11] (fun x wz => ∃ k : Nat, i ≤ k ∧ k ≤ q ∧ x = .int .i64 (k : Nat) ∧ Hid (CAp w V U f g (min k n) (min k m) wz)) (fun x _ => q - (intOf x).toNat)
        case atStart => exact ⟨i, Nat.le_refl _, by have := HQB.out.2.1; omega, rfl, H⟩
        case round =>
          obtain ⟨k, hik, hkq, rfl, H1⟩ := hrel
          clear H
          have hk0 : (0 : Int) ≤ k := by omega
          have HKB := Lib.hid (show i ≤ k ∧ k ≤ q ∧ q ≤ 1048616 from ⟨hik, hkq, HQB.out.1⟩)
          by_cases hlt : k < q
          · have hlt' : (k : Int) < q := by omega
            have hkw : IntKind.i64.wrap ((k : Int) + 1) = (k : Int) + 1 := by rw [IntKind.wrap_i64]; have := HKB.out.2.2; omega
            clear hik hkq
            by_cases hkn : k < n
            · have hka : (k : Int) < n := by omega
              obtain ⟨p, hix, hpl, hpc⟩ := RdB.at_ HRA.out ca k (by omega)
              have cp := (H1.out.old.cell hpl).trans hpc
              obtain ⟨y, hy⟩ : ∃ y, f k = y := ⟨_, rfl⟩
              rw [hy] at cp
              have em : min k n = k := by omega
              have em1 : k + 1 = min (k + 1) n := by omega
              have c0 := H1.out
              rw [em] at c0
              have hal : Below (wr).heap.size (wr) ((wr).alloc (.cells #[.int .u8 (y : Nat)] 5)) := (Below.refl _ _).alloc (Nat.le_refl _) _
              have c1 := Lib.hid (c0.below hal)
              have WR := Lib.hid (hwrite (V := V) (m := k) (n := 1) (f := f) (by omega) HF.out.1 _ (stab_below HT.out c1.out.old) (sapt_of HT.out c0.hV) (one_arg hy) (one_sep c0.ds.lt) c1.out.ds)
              clear hpl hpc hy em hal c0 H1
              go_wp2_with fail
              refine WR.out.mono ?_
              rintro e w5 ⟨rfl, hw⟩
              have H2 := Lib.hid (c1.out.wroteS (l' := min (k + 1) n) (by rw [← em1]; exact hw))
              clear hw WR c1 em1 cp hix
              by_cases hkm : k < m
              · have hkb : (k : Int) < m := by omega
                obtain ⟨p, hix, hpl, hpc⟩ := RdB.at_ HRB.out cb k (by omega)
                have cp := (H2.out.old.cell hpl).trans hpc
                obtain ⟨y, hy⟩ : ∃ y, g k = y := ⟨_, rfl⟩
                rw [hy] at cp
                have em : min k m = k := by omega
                have em1 : k + 1 = min (k + 1) m := by omega
                have c0 := H2.out
                rw [em] at c0
                have hal : Below (w5).heap.size (w5) ((w5).alloc (.cells #[.int .u8 (y : Nat)] 5)) := (Below.refl _ _).alloc (Nat.le_refl _) _
                have c1 := Lib.hid (c0.below hal)
                have WR := Lib.hid (hwrite (V := U) (m := k) (n := 1) (f := g) (by omega) HF.out.2.1 _ (stab_below HT.out c1.out.old) (sapt_of HT.out c0.hU) (one_arg hy) (one_sep c0.dt.lt) c1.out.dt)
                clear hpl hpc hy em hal c0 H2
                go_wp2_with fail
                refine WR.out.mono ?_
                rintro e w6 ⟨rfl, hw⟩
                have H3 := Lib.hid (c1.out.wroteT (m' := min (k + 1) m) (by rw [← em1]; exact hw))
                clear hw WR c1 em1 cp hix
                go_wp2_with fail
                go_roundw
                case rel => exact ⟨k + 1, by have := HKB.out.1; omega, by omega, by go_num, H3⟩
                case measure => simp [intOf]; omega
              · have hkm' : ¬ ((k : Int) < m) := by omega
                have e2 : min k m = min (k + 1) m := by omega
                rw [e2] at H2
                clear e2
                go_wp2_with fail
                go_roundw
                case rel => exact ⟨k + 1, by have := HKB.out.1; omega, by omega, by go_num, H2⟩
                case measure => simp [intOf]; omega
            · have hkn' : ¬ ((k : Int) < n) := by omega
              have e1 : min k n = min (k + 1) n := by omega
              rw [e1] at H1
              have H2 := H1
              clear e1 H1
              by_cases hkm : k < m
              · have hkb : (k : Int) < m := by omega
                obtain ⟨p, hix, hpl, hpc⟩ := RdB.at_ HRB.out cb k (by omega)
                have cp := (H2.out.old.cell hpl).trans hpc
                obtain ⟨y, hy⟩ : ∃ y, g k = y := ⟨_, rfl⟩
                rw [hy] at cp
                have em : min k m = k := by omega
                have em1 : k + 1 = min (k + 1) m := by omega
                have c0 := H2.out
                rw [em] at c0
                have hal : Below (wr).heap.size (wr) ((wr).alloc (.cells #[.int .u8 (y : Nat)] 5)) := (Below.refl _ _).alloc (Nat.le_refl _) _
                have c1 := Lib.hid (c0.below hal)
                have WR := Lib.hid (hwrite (V := U) (m := k) (n := 1) (f := g) (by omega) HF.out.2.1 _ (stab_below HT.out c1.out.old) (sapt_of HT.out c0.hU) (one_arg hy) (one_sep c0.dt.lt) c1.out.dt)
                clear hpl hpc hy em hal c0 H2
                go_wp2_with fail
                refine WR.out.mono ?_
                rintro e w6 ⟨rfl, hw⟩
                have H3 := Lib.hid (c1.out.wroteT (m' := min (k + 1) m) (by rw [← em1]; exact hw))
                clear hw WR c1 em1 cp hix
                go_wp2_with fail
                go_roundw
                case rel => exact ⟨k + 1, by have := HKB.out.1; omega, by omega, by go_num, H3⟩
                case measure => simp [intOf]; omega
              · have hkm' : ¬ ((k : Int) < m) := by omega
                have e2 : min k m = min (k + 1) m := by omega
                rw [e2] at H2
                clear e2
                go_wp2_with fail
                go_roundw
                case rel => exact ⟨k + 1, by have := HKB.out.1; omega, by omega, by go_num, H2⟩
                case measure => simp [intOf]; omega
          · obtain rfl : k = q := by omega
            have hlt' : ¬ ((k : Int) < k) := by omega
            have HSS := Lib.hid (HDS.out _ V U (min k n) (min k m) (by have := HF.out.2.2.1; omega) H1.out)
            clear hik hkq
            go_wp2_with fail
            refine HSS.out.mono ?_
            rintro e w5 ⟨rfl, hb5⟩
            have H5 := Lib.hid (H1.out.below hb5)
            clear hb5 H1 HSS
            go_wp2_with fail
            go_roundw
            case rel => exact ⟨k, HQB.out.1, rfl, H5⟩
            case measure => simp [intOf]; have := HQB.out.2.1; have := HIN.out; omega
    · have h1 : ¬ ((i : Int) < n) := by omega
      have h2 : ¬ ((i : Int) < m) := by omega
      have e1 : min i n = n := by omega
      have e2 : min i m = m := by omega
      rw [e1, e2] at H
      have HNM := Lib.hid (And.intro HF.out.2.2.1 HF.out.2.2.2)
      clear e1 e2 hin
      obtain ⟨hA, hhA⟩ : ∃ h, shaH f n = h := ⟨_, rfl⟩
      obtain ⟨hB, hhB⟩ : ∃ h, shaH g m = h := ⟨_, rfl⟩
      have E1 := eq32 hA
      have E2 := eq32 hB
      have G1 := eqg32 hA hA
      have G2 := eqg32 hB hB
      go_wp2_with fail
      refine (HDS.out _ V U n m HNM.out.1 H.out).mono ?_
      rintro e w5 ⟨rfl, hb5⟩
      have H5 := Lib.hid (H.out.below hb5)
      clear hb5 H
      rw [hhA]
      go_wp2_with fail
      refine (HSA.out _ H5.out.old).mono ?_
      rintro e w6 ⟨rfl, hb6⟩
      have H6 := Lib.hid (H5.out.below hb6)
      clear hb6 H5
      rw [hhA]
      go_wp2_with fail
      refine (HDT.out _ V U n m HNM.out.2 H6.out).mono ?_
      rintro e w7 ⟨rfl, hb7⟩
      have H7 := Lib.hid (H6.out.below hb7)
      clear hb7 H6
      rw [hhB]
      go_wp2_with fail
      refine (HSB.out _ H7.out.old).mono ?_
      rintro e w8 ⟨rfl, hb8⟩
      have H8 := Lib.hid (H7.out.below hb8)
      clear hb8 H7
      rw [hhB]
      go_wp2_with fail
      refine (HLV.out _ H8.out.old).mono ?_
      rintro e w9 ⟨rfl, hb9⟩
      have H9 := Lib.hid (H8.out.below hb9)
      clear hb9 H8
      go_wp2_with fail
      go_ret
      exact ⟨rfl, H9.out.old⟩
end Go.Proofs.YtkecehcnoihiiaaDoor

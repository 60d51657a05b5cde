/- Sum, New, Reset, a sponge's Sum, Permute. -/
import Derived.Test.YtcmpnnfnkcmpcaaDoorKSpo
namespace Go.Proofs.YtcmpnnfnkcmpcaaDoor
open Go.RowKit

theorem kz_row : kr (fun _ => 0) #[.int .i64 ((0 : Nat) : Int)] = #[.int .u64 0, .int .u64 0, .int .u64 0, .int .u64 0, .int .u64 0, .int .u64 0, .int .u64 0, .int .u64 0, .int .u64 0, .int .u64 0, .int .u64 0, .int .u64 0, .int .u64 0, .int .u64 0, .int .u64 0, .int .u64 0, .int .u64 0, .int .u64 0, .int .u64 0, .int .u64 0, .int .u64 0, .int .u64 0, .int .u64 0, .int .u64 0, .int .u64 0, .int .i64 0] := by kernel_rfl
theorem kz_val : (.agg #[.int .u64 0, .int .u64 0, .int .u64 0, .int .u64 0, .int .u64 0, .int .u64 0, .int .u64 0, .int .u64 0, .int .u64 0, .int .u64 0, .int .u64 0, .int .u64 0, .int .u64 0, .int .u64 0, .int .u64 0, .int .u64 0, .int .u64 0, .int .u64 0, .int .u64 0, .int .u64 0, .int .u64 0, .int .u64 0, .int .u64 0, .int .u64 0, .int .u64 0, .int .i64 0] : Value) = .agg (kr (fun _ => 0) #[.int .i64 ((0 : Nat) : Int)]) := by rw [kz_row]
theorem info26 : (Tryd.prog.info? 46).map (·.size) = some 26 := by kernel_rfl
theorem infoS : (Tryd.prog.info? 44).map (·.size) = some 25 := by kernel_rfl
theorem infoP : (Tryd.prog.info? 35).map (·.size) = some 25 := by kernel_rfl
theorem kr_info (v : Nat → Int) (n : Nat) : (Tryd.prog.info? 46).map (·.size) = some (kr v #[.int .i64 (n : Nat)]).size := by
  rw [kr_size]
  exact info26
theorem ksum_start (w : World) : ((w.alloc (.cells #[.int .u8 0, .int .u8 0, .int .u8 0, .int .u8 0, .int .u8 0, .int .u8 0, .int .u8 0, .int .u8 0, .int .u8 0, .int .u8 0, .int .u8 0, .int .u8 0, .int .u8 0, .int .u8 0, .int .u8 0, .int .u8 0, .int .u8 0, .int .u8 0, .int .u8 0, .int .u8 0, .int .u8 0, .int .u8 0, .int .u8 0, .int .u8 0, .int .u8 0, .int .u8 0, .int .u8 0, .int .u8 0, .int .u8 0, .int .u8 0, .int .u8 0, .int .u8 0] 25)).alloc (.cells #[.int .u64 0, .int .u64 0, .int .u64 0, .int .u64 0, .int .u64 0, .int .u64 0, .int .u64 0, .int .u64 0, .int .u64 0, .int .u64 0, .int .u64 0, .int .u64 0, .int .u64 0, .int .u64 0, .int .u64 0, .int .u64 0, .int .u64 0, .int .u64 0, .int .u64 0, .int .u64 0, .int .u64 0, .int .u64 0, .int .u64 0, .int .u64 0, .int .u64 0, .int .i64 0] 46)).heap[w.heap.size + 1]? = some (.cells (kr (fun _ => 0) #[.int .i64 ((0 : Nat) : Int)]) 46 (0, 0)) ∧ ((w.alloc (.cells #[.int .u8 0, .int .u8 0, .int .u8 0, .int .u8 0, .int .u8 0, .int .u8 0, .int .u8 0, .int .u8 0, .int .u8 0, .int .u8 0, .int .u8 0, .int .u8 0, .int .u8 0, .int .u8 0, .int .u8 0, .int .u8 0, .int .u8 0, .int .u8 0, .int .u8 0, .int .u8 0, .int .u8 0, .int .u8 0, .int .u8 0, .int .u8 0, .int .u8 0, .int .u8 0, .int .u8 0, .int .u8 0, .int .u8 0, .int .u8 0, .int .u8 0, .int .u8 0] 25)).alloc (.cells #[.int .u64 0, .int .u64 0, .int .u64 0, .int .u64 0, .int .u64 0, .int .u64 0, .int .u64 0, .int .u64 0, .int .u64 0, .int .u64 0, .int .u64 0, .int .u64 0, .int .u64 0, .int .u64 0, .int .u64 0, .int .u64 0, .int .u64 0, .int .u64 0, .int .u64 0, .int .u64 0, .int .u64 0, .int .u64 0, .int .u64 0, .int .u64 0, .int .u64 0, .int .i64 0] 46)).heap[w.heap.size]? = some (.cells #[.int .u8 0, .int .u8 0, .int .u8 0, .int .u8 0, .int .u8 0, .int .u8 0, .int .u8 0, .int .u8 0, .int .u8 0, .int .u8 0, .int .u8 0, .int .u8 0, .int .u8 0, .int .u8 0, .int .u8 0, .int .u8 0, .int .u8 0, .int .u8 0, .int .u8 0, .int .u8 0, .int .u8 0, .int .u8 0, .int .u8 0, .int .u8 0, .int .u8 0, .int .u8 0, .int .u8 0, .int .u8 0, .int .u8 0, .int .u8 0, .int .u8 0, .int .u8 0] 25 (0, 0)) := by
  refine ⟨?_, (heap_alloc_old _ _ (by simp)).trans (heap_alloc_new _ _)⟩
  have h := heap_alloc_new (w.alloc (.cells #[.int .u8 0, .int .u8 0, .int .u8 0, .int .u8 0, .int .u8 0, .int .u8 0, .int .u8 0, .int .u8 0, .int .u8 0, .int .u8 0, .int .u8 0, .int .u8 0, .int .u8 0, .int .u8 0, .int .u8 0, .int .u8 0, .int .u8 0, .int .u8 0, .int .u8 0, .int .u8 0, .int .u8 0, .int .u8 0, .int .u8 0, .int .u8 0, .int .u8 0, .int .u8 0, .int .u8 0, .int .u8 0, .int .u8 0, .int .u8 0, .int .u8 0, .int .u8 0] 25)) (.cells #[.int .u64 0, .int .u64 0, .int .u64 0, .int .u64 0, .int .u64 0, .int .u64 0, .int .u64 0, .int .u64 0, .int .u64 0, .int .u64 0, .int .u64 0, .int .u64 0, .int .u64 0, .int .u64 0, .int .u64 0, .int .u64 0, .int .u64 0, .int .u64 0, .int .u64 0, .int .u64 0, .int .u64 0, .int .u64 0, .int .u64 0, .int .u64 0, .int .u64 0, .int .i64 0] 46)
  rw [kz_row]
  simpa using h
set_option maxRecDepth 100000 in
set_option maxHeartbeats 4000000 in
-- WHAT Sum COMES TO.
theorem ksum {n : Nat} {f : Nat → Nat} {v : Value} {w : World} (hn : n < 1125899906842624) (hf : ∀ j, f j < 256) (hT : KTab w) (hP : ArgB w v n f) : Calls Tryd.prog 10 #[v] w fun e w' => e = .returned (.agg (ar .u8 32 (ksh f n))) ∧ Below w.heap.size w w' := by
  obtain ⟨a, cap, rfl, hc, hn0, hr⟩ := hP
  have hb1 : Below w.heap.size w ((w.alloc (.cells #[.int .u8 0, .int .u8 0, .int .u8 0, .int .u8 0, .int .u8 0, .int .u8 0, .int .u8 0, .int .u8 0, .int .u8 0, .int .u8 0, .int .u8 0, .int .u8 0, .int .u8 0, .int .u8 0, .int .u8 0, .int .u8 0, .int .u8 0, .int .u8 0, .int .u8 0, .int .u8 0, .int .u8 0, .int .u8 0, .int .u8 0, .int .u8 0, .int .u8 0, .int .u8 0, .int .u8 0, .int .u8 0, .int .u8 0, .int .u8 0, .int .u8 0, .int .u8 0] 25)).alloc (.cells #[.int .u64 0, .int .u64 0, .int .u64 0, .int .u64 0, .int .u64 0, .int .u64 0, .int .u64 0, .int .u64 0, .int .u64 0, .int .u64 0, .int .u64 0, .int .u64 0, .int .u64 0, .int .u64 0, .int .u64 0, .int .u64 0, .int .u64 0, .int .u64 0, .int .u64 0, .int .u64 0, .int .u64 0, .int .u64 0, .int .u64 0, .int .u64 0, .int .u64 0, .int .i64 0] 46)) := by go_grown
  have HS := ksum_start w
  have hsz : ((w.alloc (.cells #[.int .u8 0, .int .u8 0, .int .u8 0, .int .u8 0, .int .u8 0, .int .u8 0, .int .u8 0, .int .u8 0, .int .u8 0, .int .u8 0, .int .u8 0, .int .u8 0, .int .u8 0, .int .u8 0, .int .u8 0, .int .u8 0, .int .u8 0, .int .u8 0, .int .u8 0, .int .u8 0, .int .u8 0, .int .u8 0, .int .u8 0, .int .u8 0, .int .u8 0, .int .u8 0, .int .u8 0, .int .u8 0, .int .u8 0, .int .u8 0, .int .u8 0, .int .u8 0] 25)).alloc (.cells #[.int .u64 0, .int .u64 0, .int .u64 0, .int .u64 0, .int .u64 0, .int .u64 0, .int .u64 0, .int .u64 0, .int .u64 0, .int .u64 0, .int .u64 0, .int .u64 0, .int .u64 0, .int .u64 0, .int .u64 0, .int .u64 0, .int .u64 0, .int .u64 0, .int .u64 0, .int .u64 0, .int .u64 0, .int .u64 0, .int .u64 0, .int .u64 0, .int .u64 0, .int .i64 0] 46)).heap.size = w.heap.size + 1 + 1 := by simp
  have hT1 := hT.below (Below.mono hb1 (Nat.le_refl _))
  have WR := Lib.hid (kwr (V := w.heap.size + 1) (m := 0) (n := n) (f := f) a cap hn hf _ hT1 (apt_of hT (by omega)) (sep_of hr (by omega)) (by simpa using hr.below hb1) HS.1)
  obtain ⟨w1, hw1⟩ : ∃ z, (w.alloc (.cells #[.int .u8 0, .int .u8 0, .int .u8 0, .int .u8 0, .int .u8 0, .int .u8 0, .int .u8 0, .int .u8 0, .int .u8 0, .int .u8 0, .int .u8 0, .int .u8 0, .int .u8 0, .int .u8 0, .int .u8 0, .int .u8 0, .int .u8 0, .int .u8 0, .int .u8 0, .int .u8 0, .int .u8 0, .int .u8 0, .int .u8 0, .int .u8 0, .int .u8 0, .int .u8 0, .int .u8 0, .int .u8 0, .int .u8 0, .int .u8 0, .int .u8 0, .int .u8 0] 25)).alloc (.cells #[.int .u64 0, .int .u64 0, .int .u64 0, .int .u64 0, .int .u64 0, .int .u64 0, .int .u64 0, .int .u64 0, .int .u64 0, .int .u64 0, .int .u64 0, .int .u64 0, .int .u64 0, .int .u64 0, .int .u64 0, .int .u64 0, .int .u64 0, .int .u64 0, .int .u64 0, .int .u64 0, .int .u64 0, .int .u64 0, .int .u64 0, .int .u64 0, .int .u64 0, .int .i64 0] 46) = z := ⟨_, rfl⟩
  rw [hw1] at WR HS hsz hb1 hT1
  have H0 := Lib.hid (And.intro hb1 (And.intro hsz (And.intro HS.2 (And.intro hT1 hT))))
  have HI : ∀ f, Hid ((Tryd.prog.info? 25).map (·.size) = some (ar .u8 32 f).size) := fun f => Lib.hid (by rw [ar_size]; exact info32)
  clear HS hsz hb1 hT1 hT hr hn0 hf hc
  go_enter Tryd.func10, Tryd.ntmps10
  go_wp2_with fail
  refine WR.out.mono ?_
  rintro e u ⟨rfl, h⟩
  rw [Nat.zero_add] at h
  have H1 := Lib.hid h
  clear h WR hw1
  obtain ⟨k, hk⟩ : ∃ k, n % 136 = k := ⟨_, rfl⟩
  obtain ⟨s, hs⟩ : ∃ s, ab f n = s := ⟨_, rfl⟩
  have HK := Lib.hid (show ksh f n = byt (kpm rcT 24 (xby (xby s k 1) 135 128)) from by unfold ksh fin; rw [hk, hs])
  rw [hk, hs] at H1
  have hb2 : Below w.heap.size w u := H1.out.bt.below H0.out.1 (by omega) (by have := H0.out.2.1; omega)
  have HB := Lib.hid hb2
  have hru := (H1.out.bt.block w.heap.size (by omega) (by have := H0.out.2.1; omega)).trans H0.out.2.2.1
  have HRU := Lib.hid hru
  have FI := Lib.hid (kfi s k (by omega) u (H0.out.2.2.2.2.below (Below.mono hb2 (Nat.le_refl _))))
  have HR1 := Lib.hid H1.out.row
  have HI2 := Lib.hid (kr_info s k)
  obtain ⟨y, hy⟩ : ∃ y, byt (kpm rcT 24 (xby (xby s k 1) 135 128)) = y := ⟨_, rfl⟩
  rw [hy] at FI HK
  obtain ⟨row, hrow⟩ : ∃ r, kr s #[.int .i64 (k : Nat)] = r := ⟨_, rfl⟩
  rw [hrow] at HR1 HI2 FI
  clear hk hs hb2 hru H1 hy hrow
  go_wp2_with (refine wpList_load_row rfl 46 _ rfl (w.heap.size + 1) rfl 46 _ (0, 0) _ HR1.out Tryd.underlying46 rfl HI2.out ?_)
  refine FI.out.mono ?_
  rintro e u2 ⟨rfl, hb⟩
  have HB2 := Lib.hid (HB.out.trans (hb.mono HB.out.size))
  have hr2 := (hb.block w.heap.size (by have := (Array.getElem?_eq_some_iff.1 HRU.out).1; omega)).trans HRU.out
  have HR2 := Lib.hid hr2
  clear hb hr2 FI HR1
  go_wp2_with (refine wpList_store_row rfl 25 _ _ rfl w.heap.size (ar .u8 32 y) rfl rfl 25 _ HR2.out (HI y).out (by rw [ar_size]; rfl) (ar_one _ _ _) ?_)
  refine bodyPost_ret (v := .agg (ar .u8 32 y)) (results_cell_row (p := 2) rfl _ _ w.heap.size 25 _ (0, 0) _ rfl (setRow_heap _ _ _ _ _ _ HR2.out) Tryd.underlying25 rfl (HI y).out) rfl ⟨by rw [HK.out], below_setRow HB2.out (by omega) _⟩
set_option maxRecDepth 100000 in
set_option maxHeartbeats 4000000 in
-- WHAT A SPONGE'S Sum COMES TO.
theorem kssum {V : Nat} {v : Nat → Int} (n : Nat) (hn : n < 136) (w : World) (hT : KTab w) (hw : w.heap[V]? = some (.cells (kr v #[.int .i64 (n : Nat)]) 46 (0, 0))) :
    Calls Tryd.prog 13 #[.pointer (some ⟨V, 0, none⟩)] w fun e w' => e = .returned (.agg (ar .u8 32 (byt (kpm rcT 24 (xby (xby v n 1) 135 128))))) ∧ Below w.heap.size w w' := by
  have hV : V < w.heap.size := (Array.getElem?_eq_some_iff.1 hw).1
  have hb1 : Below w.heap.size w (w.alloc (.cells #[.int .u8 0, .int .u8 0, .int .u8 0, .int .u8 0, .int .u8 0, .int .u8 0, .int .u8 0, .int .u8 0, .int .u8 0, .int .u8 0, .int .u8 0, .int .u8 0, .int .u8 0, .int .u8 0, .int .u8 0, .int .u8 0, .int .u8 0, .int .u8 0, .int .u8 0, .int .u8 0, .int .u8 0, .int .u8 0, .int .u8 0, .int .u8 0, .int .u8 0, .int .u8 0, .int .u8 0, .int .u8 0, .int .u8 0, .int .u8 0, .int .u8 0, .int .u8 0] 25)) := by go_grown
  have FI := Lib.hid (kfi v n hn (w.alloc (.cells #[.int .u8 0, .int .u8 0, .int .u8 0, .int .u8 0, .int .u8 0, .int .u8 0, .int .u8 0, .int .u8 0, .int .u8 0, .int .u8 0, .int .u8 0, .int .u8 0, .int .u8 0, .int .u8 0, .int .u8 0, .int .u8 0, .int .u8 0, .int .u8 0, .int .u8 0, .int .u8 0, .int .u8 0, .int .u8 0, .int .u8 0, .int .u8 0, .int .u8 0, .int .u8 0, .int .u8 0, .int .u8 0, .int .u8 0, .int .u8 0, .int .u8 0, .int .u8 0] 25)) (hT.below hb1))
  have HR1 := Lib.hid ((heap_alloc_old w (.cells #[.int .u8 0, .int .u8 0, .int .u8 0, .int .u8 0, .int .u8 0, .int .u8 0, .int .u8 0, .int .u8 0, .int .u8 0, .int .u8 0, .int .u8 0, .int .u8 0, .int .u8 0, .int .u8 0, .int .u8 0, .int .u8 0, .int .u8 0, .int .u8 0, .int .u8 0, .int .u8 0, .int .u8 0, .int .u8 0, .int .u8 0, .int .u8 0, .int .u8 0, .int .u8 0, .int .u8 0, .int .u8 0, .int .u8 0, .int .u8 0, .int .u8 0, .int .u8 0] 25) hV).trans hw)
  have HRU := Lib.hid (heap_alloc_new w (.cells #[.int .u8 0, .int .u8 0, .int .u8 0, .int .u8 0, .int .u8 0, .int .u8 0, .int .u8 0, .int .u8 0, .int .u8 0, .int .u8 0, .int .u8 0, .int .u8 0, .int .u8 0, .int .u8 0, .int .u8 0, .int .u8 0, .int .u8 0, .int .u8 0, .int .u8 0, .int .u8 0, .int .u8 0, .int .u8 0, .int .u8 0, .int .u8 0, .int .u8 0, .int .u8 0, .int .u8 0, .int .u8 0, .int .u8 0, .int .u8 0, .int .u8 0, .int .u8 0] 25))
  have HI2 := Lib.hid (kr_info v n)
  have HI : ∀ f, Hid ((Tryd.prog.info? 25).map (·.size) = some (ar .u8 32 f).size) := fun f => Lib.hid (by rw [ar_size]; exact info32)
  have HB := Lib.hid hb1
  obtain ⟨y, hy⟩ : ∃ y, byt (kpm rcT 24 (xby (xby v n 1) 135 128)) = y := ⟨_, rfl⟩
  rw [hy] at FI ⊢
  obtain ⟨row, hrow⟩ : ∃ r, kr v #[.int .i64 (n : Nat)] = r := ⟨_, rfl⟩
  rw [hrow] at HR1 HI2 FI
  clear hw hV hb1 hT hy hrow hn
  go_enter Tryd.func13, Tryd.ntmps13
  go_wp2_with (refine wpList_load_row rfl 46 _ rfl V rfl 46 _ (0, 0) _ HR1.out Tryd.underlying46 rfl HI2.out ?_)
  refine FI.out.mono ?_
  rintro e u2 ⟨rfl, hb⟩
  have HB2 := Lib.hid (HB.out.trans (hb.mono HB.out.size))
  have hr2 := (hb.block w.heap.size (by simp)).trans HRU.out
  have HR2 := Lib.hid hr2
  clear hb hr2 FI HR1
  go_wp2_with (refine wpList_store_row rfl 25 _ _ rfl w.heap.size (ar .u8 32 y) rfl rfl 25 _ HR2.out (HI y).out (by rw [ar_size]; rfl) (ar_one _ _ _) ?_)
  refine bodyPost_ret (v := .agg (ar .u8 32 y)) (results_cell_row (p := 2) rfl _ _ w.heap.size 25 _ (0, 0) _ rfl (setRow_heap _ _ _ _ _ _ HR2.out) Tryd.underlying25 rfl (HI y).out) rfl ⟨rfl, below_setRow HB2.out (by omega) _⟩
set_option maxRecDepth 100000 in
-- WHAT New COMES TO.
theorem knew (w : World) : Calls Tryd.prog 9 #[] w fun e w' => e = .returned (.pointer (some ⟨w.heap.size, 0, none⟩)) ∧ w'.heap[w.heap.size]? = some (.cells (kr (fun _ => 0) #[.int .i64 ((0 : Nat) : Int)]) 46 (0, 0)) ∧ Below w.heap.size w w' := by
  have hr := heap_alloc_new w (.cells #[.int .u64 0, .int .u64 0, .int .u64 0, .int .u64 0, .int .u64 0, .int .u64 0, .int .u64 0, .int .u64 0, .int .u64 0, .int .u64 0, .int .u64 0, .int .u64 0, .int .u64 0, .int .u64 0, .int .u64 0, .int .u64 0, .int .u64 0, .int .u64 0, .int .u64 0, .int .u64 0, .int .u64 0, .int .u64 0, .int .u64 0, .int .u64 0, .int .u64 0, .int .i64 0] 46)
  rw [← kz_row] at hr
  have HR := Lib.hid hr
  have HB := Lib.hid (show Below w.heap.size w (w.alloc (.cells (kr (fun _ => 0) #[.int .i64 ((0 : Nat) : Int)]) 46)) by go_grown)
  rw [kz_row] at HB
  clear hr
  go_enter Tryd.func9, Tryd.ntmps9
  go_wp2
  go_ret
  refine ⟨rfl, ?_, HB.out⟩
  have h := HR.out
  rw [kz_row] at h ⊢
  exact h
set_option maxRecDepth 100000 in
set_option maxHeartbeats 4000000 in
-- WHAT Reset COMES TO.
theorem krst {V n : Nat} {v : Nat → Int} (w : World) (hw : w.heap[V]? = some (.cells (kr v #[.int .i64 (n : Nat)]) 46 (0, 0))) :
    Calls Tryd.prog 12 #[.pointer (some ⟨V, 0, none⟩)] w fun e w' => e = .returned (.tuple #[]) ∧ CW w V (fun _ => 0) 0 w' := by
  have HV := Lib.hid kz_val
  have HI := Lib.hid (kr_info (fun _ => 0) 0)
  have HW := Lib.hid hw
  clear hw
  have HX := Lib.hid (show CW w V (fun _ => 0) 0 (w.setRow V (kr (fun _ => 0) #[.int .i64 ((0 : Nat) : Int)])) from
    ⟨⟨rfl, rfl, rfl, by simp, fun k hk _ => setRow_other _ _ _ _ hk⟩, setRow_heap _ _ _ _ _ _ HW.out⟩)
  go_enter Tryd.func12, Tryd.ntmps12
  go_wp2_with (refine wpList_store_row rfl 46 _ _ rfl V (kr (fun _ => 0) #[.int .i64 ((0 : Nat) : Int)]) rfl HV.out 46 _ HW.out HI.out (by rw [kr_size, kr_size]; rfl) (kr_one _ _) ?_)
  go_end0
  exact ⟨rfl, HX.out⟩
theorem kp_start (w : World) (s : Nat → Int) : ((((w.alloc (.cells (ar .u64 25 s) 35)).alloc (.cells #[.int .u64 0, .int .u64 0, .int .u64 0, .int .u64 0, .int .u64 0, .int .u64 0, .int .u64 0, .int .u64 0, .int .u64 0, .int .u64 0, .int .u64 0, .int .u64 0, .int .u64 0, .int .u64 0, .int .u64 0, .int .u64 0, .int .u64 0, .int .u64 0, .int .u64 0, .int .u64 0, .int .u64 0, .int .u64 0, .int .u64 0, .int .u64 0, .int .u64 0] 35)).alloc (.cells #[.int .u64 0, .int .u64 0, .int .u64 0, .int .u64 0, .int .u64 0, .int .u64 0, .int .u64 0, .int .u64 0, .int .u64 0, .int .u64 0, .int .u64 0, .int .u64 0, .int .u64 0, .int .u64 0, .int .u64 0, .int .u64 0, .int .u64 0, .int .u64 0, .int .u64 0, .int .u64 0, .int .u64 0, .int .u64 0, .int .u64 0, .int .u64 0, .int .u64 0] 44)).setRow (w.heap.size + 1 + 1) (ar .u64 25 s)).heap[w.heap.size + 1 + 1]? = some (.cells (ar .u64 25 s) 44 (0, 0)) ∧ ((((w.alloc (.cells (ar .u64 25 s) 35)).alloc (.cells #[.int .u64 0, .int .u64 0, .int .u64 0, .int .u64 0, .int .u64 0, .int .u64 0, .int .u64 0, .int .u64 0, .int .u64 0, .int .u64 0, .int .u64 0, .int .u64 0, .int .u64 0, .int .u64 0, .int .u64 0, .int .u64 0, .int .u64 0, .int .u64 0, .int .u64 0, .int .u64 0, .int .u64 0, .int .u64 0, .int .u64 0, .int .u64 0, .int .u64 0] 35)).alloc (.cells #[.int .u64 0, .int .u64 0, .int .u64 0, .int .u64 0, .int .u64 0, .int .u64 0, .int .u64 0, .int .u64 0, .int .u64 0, .int .u64 0, .int .u64 0, .int .u64 0, .int .u64 0, .int .u64 0, .int .u64 0, .int .u64 0, .int .u64 0, .int .u64 0, .int .u64 0, .int .u64 0, .int .u64 0, .int .u64 0, .int .u64 0, .int .u64 0, .int .u64 0] 44)).setRow (w.heap.size + 1 + 1) (ar .u64 25 s)).heap[w.heap.size + 1]? = some (.cells #[.int .u64 0, .int .u64 0, .int .u64 0, .int .u64 0, .int .u64 0, .int .u64 0, .int .u64 0, .int .u64 0, .int .u64 0, .int .u64 0, .int .u64 0, .int .u64 0, .int .u64 0, .int .u64 0, .int .u64 0, .int .u64 0, .int .u64 0, .int .u64 0, .int .u64 0, .int .u64 0, .int .u64 0, .int .u64 0, .int .u64 0, .int .u64 0, .int .u64 0] 35 (0, 0)) ∧ Below w.heap.size w ((((w.alloc (.cells (ar .u64 25 s) 35)).alloc (.cells #[.int .u64 0, .int .u64 0, .int .u64 0, .int .u64 0, .int .u64 0, .int .u64 0, .int .u64 0, .int .u64 0, .int .u64 0, .int .u64 0, .int .u64 0, .int .u64 0, .int .u64 0, .int .u64 0, .int .u64 0, .int .u64 0, .int .u64 0, .int .u64 0, .int .u64 0, .int .u64 0, .int .u64 0, .int .u64 0, .int .u64 0, .int .u64 0, .int .u64 0] 35)).alloc (.cells #[.int .u64 0, .int .u64 0, .int .u64 0, .int .u64 0, .int .u64 0, .int .u64 0, .int .u64 0, .int .u64 0, .int .u64 0, .int .u64 0, .int .u64 0, .int .u64 0, .int .u64 0, .int .u64 0, .int .u64 0, .int .u64 0, .int .u64 0, .int .u64 0, .int .u64 0, .int .u64 0, .int .u64 0, .int .u64 0, .int .u64 0, .int .u64 0, .int .u64 0] 44)).setRow (w.heap.size + 1 + 1) (ar .u64 25 s)) ∧ (((w.alloc (.cells (ar .u64 25 s) 35)).alloc (.cells #[.int .u64 0, .int .u64 0, .int .u64 0, .int .u64 0, .int .u64 0, .int .u64 0, .int .u64 0, .int .u64 0, .int .u64 0, .int .u64 0, .int .u64 0, .int .u64 0, .int .u64 0, .int .u64 0, .int .u64 0, .int .u64 0, .int .u64 0, .int .u64 0, .int .u64 0, .int .u64 0, .int .u64 0, .int .u64 0, .int .u64 0, .int .u64 0, .int .u64 0] 35)).alloc (.cells #[.int .u64 0, .int .u64 0, .int .u64 0, .int .u64 0, .int .u64 0, .int .u64 0, .int .u64 0, .int .u64 0, .int .u64 0, .int .u64 0, .int .u64 0, .int .u64 0, .int .u64 0, .int .u64 0, .int .u64 0, .int .u64 0, .int .u64 0, .int .u64 0, .int .u64 0, .int .u64 0, .int .u64 0, .int .u64 0, .int .u64 0, .int .u64 0, .int .u64 0] 44)).heap[w.heap.size + 1 + 1]? = some (.cells #[.int .u64 0, .int .u64 0, .int .u64 0, .int .u64 0, .int .u64 0, .int .u64 0, .int .u64 0, .int .u64 0, .int .u64 0, .int .u64 0, .int .u64 0, .int .u64 0, .int .u64 0, .int .u64 0, .int .u64 0, .int .u64 0, .int .u64 0, .int .u64 0, .int .u64 0, .int .u64 0, .int .u64 0, .int .u64 0, .int .u64 0, .int .u64 0, .int .u64 0] 44 (0, 0)) ∧ (((w.alloc (.cells (ar .u64 25 s) 35)).alloc (.cells #[.int .u64 0, .int .u64 0, .int .u64 0, .int .u64 0, .int .u64 0, .int .u64 0, .int .u64 0, .int .u64 0, .int .u64 0, .int .u64 0, .int .u64 0, .int .u64 0, .int .u64 0, .int .u64 0, .int .u64 0, .int .u64 0, .int .u64 0, .int .u64 0, .int .u64 0, .int .u64 0, .int .u64 0, .int .u64 0, .int .u64 0, .int .u64 0, .int .u64 0] 35)).alloc (.cells #[.int .u64 0, .int .u64 0, .int .u64 0, .int .u64 0, .int .u64 0, .int .u64 0, .int .u64 0, .int .u64 0, .int .u64 0, .int .u64 0, .int .u64 0, .int .u64 0, .int .u64 0, .int .u64 0, .int .u64 0, .int .u64 0, .int .u64 0, .int .u64 0, .int .u64 0, .int .u64 0, .int .u64 0, .int .u64 0, .int .u64 0, .int .u64 0, .int .u64 0] 44)).heap[w.heap.size]? = some (.cells (ar .u64 25 s) 35 (0, 0)) ∧ ((w.alloc (.cells (ar .u64 25 s) 35)).alloc (.cells #[.int .u64 0, .int .u64 0, .int .u64 0, .int .u64 0, .int .u64 0, .int .u64 0, .int .u64 0, .int .u64 0, .int .u64 0, .int .u64 0, .int .u64 0, .int .u64 0, .int .u64 0, .int .u64 0, .int .u64 0, .int .u64 0, .int .u64 0, .int .u64 0, .int .u64 0, .int .u64 0, .int .u64 0, .int .u64 0, .int .u64 0, .int .u64 0, .int .u64 0] 35)).heap[w.heap.size]? = some (.cells (ar .u64 25 s) 35 (0, 0)) := by
  have h := heap3 w (.cells (ar .u64 25 s) 35) (.cells #[.int .u64 0, .int .u64 0, .int .u64 0, .int .u64 0, .int .u64 0, .int .u64 0, .int .u64 0, .int .u64 0, .int .u64 0, .int .u64 0, .int .u64 0, .int .u64 0, .int .u64 0, .int .u64 0, .int .u64 0, .int .u64 0, .int .u64 0, .int .u64 0, .int .u64 0, .int .u64 0, .int .u64 0, .int .u64 0, .int .u64 0, .int .u64 0, .int .u64 0] 35) (.cells #[.int .u64 0, .int .u64 0, .int .u64 0, .int .u64 0, .int .u64 0, .int .u64 0, .int .u64 0, .int .u64 0, .int .u64 0, .int .u64 0, .int .u64 0, .int .u64 0, .int .u64 0, .int .u64 0, .int .u64 0, .int .u64 0, .int .u64 0, .int .u64 0, .int .u64 0, .int .u64 0, .int .u64 0, .int .u64 0, .int .u64 0, .int .u64 0, .int .u64 0] 44)
  refine ⟨setRow_heap _ _ _ _ _ _ h.2.2, (setRow_other _ _ _ _ (by omega)).trans h.2.1, below_setRow (by go_grown) (by omega) _, h.2.2, h.1, ?_⟩
  exact (heap_alloc_old _ _ (by simp)).trans (heap_alloc_new _ _)
set_option maxRecDepth 100000 in
set_option maxHeartbeats 4000000 in
-- WHAT Permute COMES TO.
theorem kpe (s : Nat → Int) (w : World) (hT : KTab w) : Calls Tryd.prog 15 #[.agg (ar .u64 25 s)] w fun e w' => e = .returned (.agg (ar .u64 25 (kpm rcT 24 s))) ∧ Below w.heap.size w w' := by
  have HS := kp_start w s
  have HP := Lib.hid (kperm (V := w.heap.size + 1 + 1) (tt := 44) (tl := #[]) (v := s) _ (hT.below (Below.mono HS.2.2.1 (Nat.le_refl _))) (apt_of hT (by omega)) (by rw [kr_nil]; exact HS.1))
  have HR0 := Lib.hid HS.2.2.2.2.1
  have HR0' := Lib.hid HS.2.2.2.2.2
  have HR2 := Lib.hid HS.2.2.2.1
  have HH := Lib.hid (And.intro HS.2.2.1 HS.2.1)
  have HI : ∀ f, Hid ((Tryd.prog.info? 35).map (·.size) = some (ar .u64 25 f).size) := fun f => Lib.hid (by rw [ar_size]; exact infoP)
  have HJ : ∀ f, Hid ((Tryd.prog.info? 44).map (·.size) = some (ar .u64 25 f).size) := fun f => Lib.hid (by rw [ar_size]; exact infoS)
  clear HS hT
  go_enter Tryd.func15, Tryd.ntmps15
  go_wp2_with (first | (refine wpList_load_row rfl 35 _ rfl w.heap.size rfl 35 (ar .u64 25 s) (0, 0) _ (by first | exact HR0'.out | exact HR0.out) Tryd.underlying35 rfl (HI s).out ?_) | (refine wpList_store_row rfl 44 _ _ rfl (w.heap.size + 1 + 1) (ar .u64 25 s) rfl rfl 44 _ (by exact HR2.out) (HJ s).out (by rw [ar_size]; rfl) (ar_one _ _ _) ?_))
  refine HP.out.mono ?_
  rintro e u ⟨rfl, h⟩
  have hr := h.row
  rw [kr_nil] at hr
  have hsz : w.heap.size + 1 + 1 < u.heap.size := (Array.getElem?_eq_some_iff.1 hr).1
  have h1 := (h.bt.block (w.heap.size + 1) (by omega) (by have := HH.out.2; have := (Array.getElem?_eq_some_iff.1 this).1; exact this)).trans HH.out.2
  have hb := h.bt.below HH.out.1 (by omega) HH.out.1.size
  have HQ := Lib.hid (And.intro hr (And.intro h1 hb))
  clear h hr hsz h1 hb HP HR0 HR0' HR2
  obtain ⟨y, hy⟩ : ∃ y, kpm rcT 24 s = y := ⟨_, rfl⟩
  rw [hy] at HQ
  have HY := Lib.hid hy
  clear hy
  go_wp2_with (first | (refine wpList_load_row rfl 44 _ rfl (w.heap.size + 1 + 1) rfl 44 (ar .u64 25 y) (0, 0) _ HQ.out.1 Tryd.underlying44 rfl (HJ y).out ?_) | (refine wpList_store_row rfl 35 _ _ rfl (w.heap.size + 1) (ar .u64 25 y) rfl rfl 35 _ HQ.out.2.1 (HI y).out (by rw [ar_size]; rfl) (ar_one _ _ _) ?_))
  refine bodyPost_ret (v := .agg (ar .u64 25 y)) (results_cell_row (p := 2) rfl _ _ (w.heap.size + 1) 35 _ (0, 0) _ rfl (setRow_heap _ _ _ _ _ _ HQ.out.2.1) Tryd.underlying35 rfl (HI y).out) rfl ⟨by rw [HY.out], below_setRow HQ.out.2.2 (by omega) _⟩
end Go.Proofs.YtcmpnnfnkcmpcaaDoor

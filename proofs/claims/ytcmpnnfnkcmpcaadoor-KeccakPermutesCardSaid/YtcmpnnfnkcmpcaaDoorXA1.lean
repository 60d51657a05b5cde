/- bailiwicklaw03.KeccakPermutes: the statement about it, and its card: whatever the input: true; the input reads as it did. CONDITIONS: the row's own: its listed tables read, when the call begins, as the program's text lays them; the card ties them to that text. (With it, merged: KPermutes · KeccakPermutes.) -/
import Derived.Test.YtcmpnnfnkcmpcaaDoorM3
namespace Go.Proofs.YtcmpnnfnkcmpcaaDoor
open Go.RowKit

/-- Worlds in which nothing that was there has turned, and these blocks hold these cells. -/
structure CB (w : World) (l : List (Nat × Array Value × TypeId)) (wx : World) : Prop where
  old : Below w.heap.size w wx
  rows : ∀ x, x ∈ l → wx.heap[x.1]? = some (.cells x.2.1 x.2.2 (0, 0))
theorem CB.below {w wx w' : World} {l : List (Nat × Array Value × TypeId)} (c : CB w l wx) (hb : Below wx.heap.size wx w') : CB w l w' :=
  ⟨c.old.trans (hb.mono c.old.size), fun x hx => (hb.block _ (Array.getElem?_eq_some_iff.1 (c.rows x hx)).1).trans (c.rows x hx)⟩
theorem CB.drew {w wx : World} {l : List (Nat × Array Value × TypeId)} (c : CB w l wx) : CB w l wx.drew := ⟨c.old.drew, c.rows⟩
/-- A row more in a fresh block. -/
theorem CB.lay {w wx : World} {l : List (Nat × Array Value × TypeId)} (c : CB w l wx) (z cs : Array Value) (T : TypeId) : CB w ((wx.heap.size, cs, T) :: l) ((wx.alloc (.cells z T)).setRow wx.heap.size cs) := by
  refine ⟨below_setRow (c.old.alloc c.old.size _) c.old.size _, fun x hx => ?_⟩
  rcases List.mem_cons.1 hx with rfl | hx
  · exact setRow_heap _ _ _ _ _ _ (heap_alloc_new _ _)
  · have h1 := (Array.getElem?_eq_some_iff.1 (c.rows x hx)).1
    exact (setRow_other _ _ _ _ (by omega)).trans ((heap_alloc_old _ _ h1).trans (c.rows x hx))
theorem xor_y {a y : Int} (hy : 0 ≤ y ∧ y < 18446744073709551616) (h : bits .xor .u64 a y = a) : y = 0 := by
  refine bi_inj hy (by omega) fun z hz => ?_
  have e := congrArg (fun x => bi x z) h
  simp only [bi_xor] at e
  rw [show bi 0 z = false from by unfold bi; simp]
  cases h1 : bi a z <;> cases h2 : bi y z <;> simp [h1, h2] at e ⊢
theorem xor_z {a : Int} (ha : 0 ≤ a ∧ a < 18446744073709551616) : bits .xor .u64 a 0 = a := by
  rw [kxor, IntKind.wrap_u64, show ((0 : Int) % 18446744073709551616).toNat = 0 from rfl, Nat.xor_zero]
  omega
theorem kp_same (s : Nat → Int) (hs : ∀ i, i < 25 → 0 ≤ s i ∧ s i < 18446744073709551616) (y : Int) (hy : 0 ≤ y ∧ y < 18446744073709551616) (a : Nat) (ha : a < 25) :
    eqF 25 (kpm rcT 24 (updI s a (bits .xor .u64 (s a) y))) (kpm rcT 24 s) = (y == 0) := by
  have hr : ∀ i, i < 25 → 0 ≤ updI s a (bits .xor .u64 (s a) y) i ∧ updI s a (bits .xor .u64 (s a) y) i < 18446744073709551616 := fun i hi => by
    unfold updI
    by_cases h : i = a
    · rw [if_pos h]; exact kxor_rng _ _
    · rw [if_neg h]; exact hs i hi
  rw [Bool.eq_iff_iff, eqF_iff]
  simp only [beq_iff_eq]
  constructor
  · intro h
    have e := kpm_inj rcT 24 hr hs h a ha
    unfold updI at e
    rw [if_pos rfl] at e
    exact xor_y hy e
  · rintro rfl i hi
    refine kpm_congr rcT (fun j hj => ?_) 24 i hi
    unfold updI
    by_cases h : j = a
    · subst h; rw [if_pos rfl, xor_z (hs j hj)]
    · rw [if_neg h]
theorem eqg25 (f g : Nat → Int) (o1 o2 : Operand) (w : World) : (eqGuard BinOp.eql 35 o1 o2 (.agg (ar .u64 25 f)) (.agg (ar .u64 25 g))).run Tryd.prog w = .ok () w := by kernel_rfl
theorem neg25 (f g : Nat → Int) (o1 o2 : Operand) (w : World) : (eqGuard BinOp.neq 35 o1 o2 (.agg (ar .u64 25 f)) (.agg (ar .u64 25 g))).run Tryd.prog w = .ok () w := by kernel_rfl
theorem eq25 (f g : Nat → Int) (w : World) : (binOp BinOp.eql 35 (.agg (ar .u64 25 f)) (.agg (ar .u64 25 g))).run Tryd.prog w = .ok (.bool (eqF 25 f g)) w :=
  eqb_ar 25 _ 34 .u64 f g w Tryd.underlying35 Tryd.underlying34 (by kernel_rfl) (by kernel_rfl)
theorem ne25 (f : Nat → Int) (w : World) : (binOp BinOp.neq 35 (.agg (ar .u64 25 f)) (.agg (ar .u64 25 f))).run Tryd.prog w = .ok (.bool false) w := by
  have h := neb_ar 25 35 34 .u64 f f w (P := Tryd.prog) Tryd.underlying35 Tryd.underlying34 (by kernel_rfl) (by kernel_rfl)
  rw [h, eqF_same]
  rfl
theorem ld25 {g : Nat} {h : Nat → Int} {w : World} (hg : w.heap[g]? = some (.cells (ar .u64 25 h) 35 (0, 0))) : (Instr.loadAt 35 (.pointer (some ⟨g, 0, none⟩))).run Tryd.prog w = .ok (.agg (ar .u64 25 h)) w :=
  load_ar hg Tryd.underlying35 rfl infoP
theorem eqbb (b : Bool) (w : World) : (binOp BinOp.eql 4 (.bool b) (.bool b)).run Tryd.prog w = .ok (.bool true) w := by
  cases b <;> kernel_rfl
set_option maxRecDepth 100000 in
set_option maxHeartbeats 4000000 in
-- THE LAW.
theorem permutes_any (s : Nat → Int) (hs : ∀ i, i < 25 → 0 ≤ s i ∧ s i < 18446744073709551616) (at' : Nat) (hat : at' < 256) (y : Int) (hy : 0 ≤ y ∧ y < 18446744073709551616) (w : World) (hT : KTab w) :
    Calls Tryd.prog 4 #[.agg (ar .u64 25 s), .int .u8 at', .int .u64 y] w fun e w' => e = .returned (.bool true) ∧ Below w.heap.size w w' := by
  have HI : ∀ f, Hid ((Tryd.prog.info? 35).map (·.size) = some (ar .u64 25 f).size) := fun f => Lib.hid (by rw [ar_size]; exact infoP)
  have HT := Lib.hid hT
  have H0 := Lib.hid (show CB w [(w.heap.size, ar .u64 25 s, 35)] (w.alloc (.cells (ar .u64 25 s) 35)) from ⟨by go_grown, fun x hx => by
    simp only [List.mem_cons, List.not_mem_nil, or_false] at hx
    subst hx
    exact heap_alloc_new _ _⟩)
  have HRS := Lib.hid (H0.out.rows _ (List.mem_cons_self ..))
  obtain ⟨a, ha⟩ : ∃ a, at' % 25 = a := ⟨_, rfl⟩
  have ha25 : a < 25 := by omega
  have HE := Lib.hid (kp_same s hs y hy a ha25)
  have HRF := Lib.hid (krp s hs)
  obtain ⟨p, hp⟩ : ∃ p, kpm rcT 24 s = p := ⟨_, rfl⟩
  obtain ⟨u, hu⟩ : ∃ u, updI s a (bits .xor .u64 (s a) y) = u := ⟨_, rfl⟩
  obtain ⟨q, hq⟩ : ∃ q, kpm rcT 24 u = q := ⟨_, rfl⟩
  have HPE : Hid (∀ wx, CB w [] wx → Calls Tryd.prog 15 #[.agg (ar .u64 25 s)] wx fun e w' => e = .returned (.agg (ar .u64 25 p)) ∧ Below wx.heap.size wx w') := Lib.hid fun wx c => by rw [← hp]; exact kpe s wx (HT.out.below c.old)
  have HQE : Hid (∀ wx, Below w.heap.size w wx → Calls Tryd.prog 15 #[.agg (ar .u64 25 u)] wx fun e w' => e = .returned (.agg (ar .u64 25 q)) ∧ Below wx.heap.size wx w') := Lib.hid fun wx c => by rw [← hq]; exact kpe u wx (HT.out.below c)
  have HLV : Hid (∀ wx, Below w.heap.size w wx → Calls Tryd.prog 14 #[] wx fun e w' => e = .returned (.bool true) ∧ Below wx.heap.size wx w') := Lib.hid fun wx c => klives wx (HT.out.below c)
  rw [hu, hq, hp] at HE
  rw [hp] at HRF
  obtain ⟨b, hb⟩ : ∃ b, (y == 0) = b := ⟨_, rfl⟩
  rw [hb] at HE
  have HU := Lib.hid hu
  clear hp hq hu hs hT
  go_enter Tryd.func4, Tryd.ntmps4
  go_wp2_with (refine wpList_load_row rfl 35 _ rfl w.heap.size rfl 35 (ar .u64 25 s) (0, 0) _ HRS.out Tryd.underlying35 rfl (HI s).out ?_)
  refine (HPE.out _ ⟨H0.out.old, fun x hx => by cases hx⟩).mono ?_
  rintro e w2 ⟨rfl, hbl⟩
  have H1 := H0.out.below hbl
  have H2 := Lib.hid (H1.lay #[.int .u64 0, .int .u64 0, .int .u64 0, .int .u64 0, .int .u64 0, .int .u64 0, .int .u64 0, .int .u64 0, .int .u64 0, .int .u64 0, .int .u64 0, .int .u64 0, .int .u64 0, .int .u64 0, .int .u64 0, .int .u64 0, .int .u64 0, .int .u64 0, .int .u64 0, .int .u64 0, .int .u64 0, .int .u64 0, .int .u64 0, .int .u64 0, .int .u64 0] (ar .u64 25 p) 35)
  obtain ⟨B, hB⟩ : ∃ B, w2.heap.size = B := ⟨_, rfl⟩
  have HRB := Lib.hid (show (w2.alloc (.cells #[.int .u64 0, .int .u64 0, .int .u64 0, .int .u64 0, .int .u64 0, .int .u64 0, .int .u64 0, .int .u64 0, .int .u64 0, .int .u64 0, .int .u64 0, .int .u64 0, .int .u64 0, .int .u64 0, .int .u64 0, .int .u64 0, .int .u64 0, .int .u64 0, .int .u64 0, .int .u64 0, .int .u64 0, .int .u64 0, .int .u64 0, .int .u64 0, .int .u64 0] 35)).heap[B]? = some (.cells #[.int .u64 0, .int .u64 0, .int .u64 0, .int .u64 0, .int .u64 0, .int .u64 0, .int .u64 0, .int .u64 0, .int .u64 0, .int .u64 0, .int .u64 0, .int .u64 0, .int .u64 0, .int .u64 0, .int .u64 0, .int .u64 0, .int .u64 0, .int .u64 0, .int .u64 0, .int .u64 0, .int .u64 0, .int .u64 0, .int .u64 0, .int .u64 0, .int .u64 0] 35 (0, 0)) by rw [← hB]; exact heap_alloc_new _ _)
  rw [hB] at H2
  clear hbl H1 H0 HRS HPE
  go_wp2_with (refine wpList_store_row rfl 35 _ _ rfl B (ar .u64 25 p) rfl rfl 35 _ HRB.out (HI p).out (by rw [ar_size]; rfl) (ar_one _ _ _) ?_)
  refine wp_region_quiet (C := CB w [(B, ar .u64 25 p, 35), (w.heap.size, ar .u64 25 s, 35)]) (by kernel_rfl) (by kernel_rfl) H2.out.drew ?_
  with_reducible refine q_load 35 (.tmp 7) (.pointer (some ⟨B, 0, none⟩)) (.agg (ar .u64 25 p)) rfl (by kernel_rfl) (by kernel_rfl) (fun _ h => ld25 (h.rows _ (List.mem_cons_self ..))) ?_
  with_reducible refine q_load 35 (.tmp 3) (.pointer (some ⟨w.heap.size, 0, none⟩)) (.agg (ar .u64 25 s)) rfl (by kernel_rfl) (by kernel_rfl) (fun _ h => ld25 (h.rows (w.heap.size, _, _) (by simp))) ?_
  with_reducible refine q_call 16 #[.agg (ar .u64 25 s)] (.agg (ar .u64 25 p)) (by kernel_rfl) (fun _ => by kernel_rfl) (fun wx h => (HRF.out wx).mono fun e w' hh => ⟨hh.1, h.below hh.2⟩) ?_
  with_reducible refine q_bin .neq 35 _ _ 35 (.agg (ar .u64 25 p)) (.agg (ar .u64 25 p)) (.bool false) rfl (by kernel_rfl) (by kernel_rfl) (by kernel_rfl) (fun _ => neg25 _ _ _ _ _) (fun _ => ne25 _ _) ?_
  with_reducible refine wpQuiet_nil ?_
  intro w3 hC
  simp only [Act.put, List.setIfInBounds_toArray, List.set_cons_succ, List.set_cons_zero]
  have H3 := Lib.hid hC
  have HS3 := Lib.hid (hC.rows (w.heap.size, ar .u64 25 s, 35) (by simp))
  have h4 := hC.lay #[.int .u64 0, .int .u64 0, .int .u64 0, .int .u64 0, .int .u64 0, .int .u64 0, .int .u64 0, .int .u64 0, .int .u64 0, .int .u64 0, .int .u64 0, .int .u64 0, .int .u64 0, .int .u64 0, .int .u64 0, .int .u64 0, .int .u64 0, .int .u64 0, .int .u64 0, .int .u64 0, .int .u64 0, .int .u64 0, .int .u64 0, .int .u64 0, .int .u64 0] (ar .u64 25 s) 35
  obtain ⟨D, hD⟩ : ∃ B, w3.heap.size = B := ⟨_, rfl⟩
  have HRD := Lib.hid (show (w3.alloc (.cells #[.int .u64 0, .int .u64 0, .int .u64 0, .int .u64 0, .int .u64 0, .int .u64 0, .int .u64 0, .int .u64 0, .int .u64 0, .int .u64 0, .int .u64 0, .int .u64 0, .int .u64 0, .int .u64 0, .int .u64 0, .int .u64 0, .int .u64 0, .int .u64 0, .int .u64 0, .int .u64 0, .int .u64 0, .int .u64 0, .int .u64 0, .int .u64 0, .int .u64 0] 35)).heap[D]? = some (.cells #[.int .u64 0, .int .u64 0, .int .u64 0, .int .u64 0, .int .u64 0, .int .u64 0, .int .u64 0, .int .u64 0, .int .u64 0, .int .u64 0, .int .u64 0, .int .u64 0, .int .u64 0, .int .u64 0, .int .u64 0, .int .u64 0, .int .u64 0, .int .u64 0, .int .u64 0, .int .u64 0, .int .u64 0, .int .u64 0, .int .u64 0, .int .u64 0, .int .u64 0] 35 (0, 0)) by rw [← hD]; exact heap_alloc_new _ _)
  have HS4 := Lib.hid (show (w3.alloc (.cells #[.int .u64 0, .int .u64 0, .int .u64 0, .int .u64 0, .int .u64 0, .int .u64 0, .int .u64 0, .int .u64 0, .int .u64 0, .int .u64 0, .int .u64 0, .int .u64 0, .int .u64 0, .int .u64 0, .int .u64 0, .int .u64 0, .int .u64 0, .int .u64 0, .int .u64 0, .int .u64 0, .int .u64 0, .int .u64 0, .int .u64 0, .int .u64 0, .int .u64 0] 35)).heap[w.heap.size]? = some (.cells (ar .u64 25 s) 35 (0, 0)) from (heap_alloc_old _ _ (Array.getElem?_eq_some_iff.1 HS3.out).1).trans HS3.out)
  rw [hD] at h4
  have H4 := Lib.hid h4
  obtain ⟨w4, hw4⟩ : ∃ z, (w3.alloc (.cells #[.int .u64 0, .int .u64 0, .int .u64 0, .int .u64 0, .int .u64 0, .int .u64 0, .int .u64 0, .int .u64 0, .int .u64 0, .int .u64 0, .int .u64 0, .int .u64 0, .int .u64 0, .int .u64 0, .int .u64 0, .int .u64 0, .int .u64 0, .int .u64 0, .int .u64 0, .int .u64 0, .int .u64 0, .int .u64 0, .int .u64 0, .int .u64 0, .int .u64 0] 35)).setRow D (ar .u64 25 s) = z := ⟨_, rfl⟩
  rw [hw4] at H4
  have hrd : w4.heap[D]? = some (.cells (ar .u64 25 s) 35 (0, 0)) := H4.out.rows _ (List.mem_cons_self ..)
  have co := (cell_of_row w4 _ a _ _ _ hrd).trans (ar_at _ _ _ _ ha25)
  have fo := frozen_of_row w4 _ a _ _ hrd
  have hDB : w.heap.size ≤ D := by rw [← hD]; exact hC.old.size
  have hBD : B < D := by rw [← hD]; exact (Array.getElem?_eq_some_iff.1 (hC.rows _ (List.mem_cons_self ..))).1
  have H5 := Lib.hid (show CB w [(D, ar .u64 25 u, 35), (B, ar .u64 25 p, 35)] (w4.setCell ⟨D, a, none⟩ (.int .u64 (bits .xor .u64 (s a) y))) from ⟨H4.out.old.setCell hDB _, fun x hx => by
    simp only [List.mem_cons, List.not_mem_nil, or_false] at hx
    rcases hx with rfl | rfl
    · exact (heap_setCell_same _ _ _ _ _ _ hrd).trans (by rw [ar_set _ _ _ _ _ ha25, HU.out])
    · exact (heap_setCell_other _ _ _ _ (by show B ≠ D; omega)).trans (H4.out.rows (B, _, _) (by simp))⟩)
  have d1 : (at' : Int) % 25 = (a : Int) := by omega
  have d2 : IntKind.i64.wrap (at' : Int) = (at' : Int) := by rw [IntKind.wrap_i64]; omega
  have hat0 : (0 : Int) ≤ at' := by omega
  have hix := ixA D a ha25
  clear hC h4 hrd hDB hBD hB H2 HRB
  go_wp2_with (first | (refine wpList_load_row rfl 35 _ rfl w.heap.size rfl 35 (ar .u64 25 s) (0, 0) _ (by first | exact HS3.out | exact HS4.out) Tryd.underlying35 rfl (HI s).out ?_) | (refine wpList_store_row rfl 35 _ _ rfl D (ar .u64 25 s) rfl rfl 35 _ HRD.out (HI s).out (by rw [ar_size]; rfl) (ar_one _ _ _) ?_))
  refine wp_region_quiet (C := CB w [(D, ar .u64 25 u, 35), (B, ar .u64 25 p, 35)]) (by kernel_rfl) (by kernel_rfl) H5.out.drew ?_
  with_reducible refine q_load 35 (.tmp 8) (.pointer (some ⟨D, 0, none⟩)) (.agg (ar .u64 25 u)) rfl (by kernel_rfl) (by kernel_rfl) (fun _ h => ld25 (h.rows _ (List.mem_cons_self ..))) ?_
  with_reducible refine q_call 15 #[.agg (ar .u64 25 u)] (.agg (ar .u64 25 q)) (by kernel_rfl) (fun _ => by kernel_rfl) (fun wx h => (HQE.out wx h.old).mono fun e w' hh => ⟨hh.1, h.below hh.2⟩) ?_
  with_reducible refine q_load 35 (.tmp 7) (.pointer (some ⟨B, 0, none⟩)) (.agg (ar .u64 25 p)) rfl (by kernel_rfl) (by kernel_rfl) (fun _ h => ld25 (h.rows (B, _, _) (by simp))) ?_
  with_reducible refine q_bin .eql 35 _ _ 35 (.agg (ar .u64 25 q)) (.agg (ar .u64 25 p)) (.bool b) rfl (by kernel_rfl) (by kernel_rfl) (by kernel_rfl) (fun _ => eqg25 _ _ _ _ _) (fun _ => (eq25 _ _ _).trans (by rw [HE.out])) ?_
  with_reducible refine q_val (.int .u64 y) (by kernel_rfl) (fun _ _ => by kernel_rfl) ?_
  with_reducible refine q_bin .eql 34 _ _ 34 (.int .u64 y) (.int .u64 0) (.bool b) rfl (by kernel_rfl) (by kernel_rfl) (by kernel_rfl) (fun _ => by kernel_rfl) (fun _ => by rw [← hb]; kernel_rfl) ?_
  with_reducible refine q_bin .eql 4 _ _ 4 (.bool b) (.bool b) (.bool true) rfl (by kernel_rfl) (by kernel_rfl) (by kernel_rfl) (fun _ => by kernel_rfl) (fun _ => eqbb _ _) ?_
  with_reducible refine q_val (.bool true) (by kernel_rfl) (fun _ _ => by kernel_rfl) ?_
  with_reducible refine q_call 14 #[] (.bool true) (by kernel_rfl) (fun _ => by kernel_rfl) (fun wx h => (HLV.out wx h.old).mono fun e w' hh => ⟨hh.1, h.below hh.2⟩) ?_
  with_reducible refine q_val (.bool true) (by kernel_rfl) (fun _ _ => by kernel_rfl) ?_
  with_reducible refine q_val (.bool true) (by kernel_rfl) (fun _ _ => by kernel_rfl) ?_
  with_reducible refine wpQuiet_nil ?_
  intro w5 hC
  simp only [Act.put, List.setIfInBounds_toArray, List.set_cons_succ, List.set_cons_zero]
  have HB5 := Lib.hid hC.old
  clear hC
  go_wp2_with fail
  go_ret
  exact ⟨rfl, HB5.out⟩
end Go.Proofs.YtcmpnnfnkcmpcaaDoor
namespace Go.Proofs.YtcmpnnfnkcmpcaaDoor.keccakPermutes
open Go.ChangeShapes Go.WideShapes Go.ChangeAt Go.RowKit

set_option maxRecDepth 100000 in
theorem contract (H : Type) (enc : TypeId × Value → H) (W : World) (base : Nat) (args : Array Value) (ds gs : List (DataW H)) (before : List MemPlace)
    (hval : ∀ (j : Nat) t v, Tryd.f4.params[j]? = some t → args[j]? = some v → Value.okWide Tryd.prog W .any base t v)
    (hW : DataW.Whole enc Tryd.prog Tryd.f4.params.toList Rows.keccakPermutesSpec.vars false W args.toList ds gs before) (hT : KTab W) :
    Calls Tryd.prog 4 args W fun e W' => ∃ v, e = .returned v ∧ Rows.keccakPermutesSpec.post enc Tryd.prog Tryd.f4 false true false false W args v W' := by
  have hW' := hW
  obtain ⟨p, q, hA0, hV, rfl, hfz, hnd⟩ := hW
  have hA : DataW.TrodAll enc Tryd.prog W 0 (fun _ => true) true Tryd.f4.params.toList args.toList ds p := hA0
  rw [Tryd.params4] at hA hval
  obtain ⟨v0, vs0, d0, ds0, p0, q0, hargs, rfl, rfl, h0, r0⟩ := trodAll_cons hA
  obtain ⟨v1, vs1, d1, ds1, p1, q1, rfl, rfl, rfl, h1, r1⟩ := trodAll_cons r0
  obtain ⟨v2, vs2, d2, ds2, p2, q2, rfl, rfl, rfl, h2, r2⟩ := trodAll_cons r1
  obtain ⟨rfl, rfl, rfl⟩ := trodAll_nil r2
  obtain rfl : args = #[v0, v1, v2] := by cases args; simp_all
  obtain ⟨rfl, rfl⟩ := trodVars_none hV
  obtain ⟨f0, rfl, R0⟩ := open_arr Tryd.underlying35 Tryd.underlying34 cellsU64 (by kernel_rfl) (hval 0 35 v0 rfl rfl) h0
  replace R0 := fun i hi => wf_u64 (R0 i hi)
  obtain ⟨z1, rfl, -, -, w1⟩ := open_int Tryd.underlying5 (hval 1 5 v1 rfl rfl) h1
  have W1 : 0 ≤ z1 ∧ z1 < 256 := by simp [Lit.wf, IntKind.min, IntKind.max, IntKind.signed, IntKind.bits] at w1; omega
  obtain ⟨a1, rfl⟩ := Int.eq_ofNat_of_zero_le W1.1
  obtain ⟨z2, rfl, -, -, w2⟩ := open_int Tryd.underlying34 (hval 2 34 v2 rfl rfl) h2
  have W2 : 0 ≤ z2 ∧ z2 < 18446744073709551616 := by simp [Lit.wf, IntKind.min, IntKind.max, IntKind.signed, IntKind.bits] at w2; omega
  clear hA0
  refine (permutes_any f0 R0 a1 (by omega) z2 W2 W hT).mono fun e W' ⟨he, hb⟩ => ?_
  subst he
  refine ⟨_, rfl, _, _, _, [], p0 ++ (p1 ++ (p2 ++ [])), [], hW', trodAll_cons_mk (shut_bool Tryd.underlying4 _) trodAll_mk0, trodAll_cons_mk (Below.trod laidOutF (by kernel_rfl) (of_decide_eq_true (by kernel_rfl)) h0 hb (fun x hx => hW'.lt x (by simp [hx]))) (trodAll_cons_mk (Below.trod laidOutF (by kernel_rfl) (of_decide_eq_true (by kernel_rfl)) h1 hb (fun x hx => hW'.lt x (by simp [hx]))) (trodAll_cons_mk (Below.trod laidOutF (by kernel_rfl) (of_decide_eq_true (by kernel_rfl)) h2 hb (fun x hx => hW'.lt x (by simp [hx]))) trodAll_mk0)), rfl, hb.frame _, fun h => by cases h⟩

theorem laid_met (os : Os) : laidMet Tryd.prog Rows.keccakPermutesRow.laid ((laidWorld os).forCall (fun _ _ => 0) ⟨#[], #[.agg #[.int .u64 0, .int .u64 0, .int .u64 0, .int .u64 0, .int .u64 0, .int .u64 0, .int .u64 0, .int .u64 0, .int .u64 0, .int .u64 0, .int .u64 0, .int .u64 0, .int .u64 0, .int .u64 0, .int .u64 0, .int .u64 0, .int .u64 0, .int .u64 0, .int .u64 0, .int .u64 0, .int .u64 0, .int .u64 0, .int .u64 0, .int .u64 0, .int .u64 0], .int .u8 0, .int .u64 0], []⟩).memory :=
  laidMet_of_run' 80 (by kernel_rfl) (by kernel_rfl)
theorem reads (os : Os) {H : Type} (enc : TypeId × Value → H) : ∃ places, DataW.whole enc Tryd.prog ((laidWorld os).forCall (fun _ _ => 0) ⟨#[], #[.agg #[.int .u64 0, .int .u64 0, .int .u64 0, .int .u64 0, .int .u64 0, .int .u64 0, .int .u64 0, .int .u64 0, .int .u64 0, .int .u64 0, .int .u64 0, .int .u64 0, .int .u64 0, .int .u64 0, .int .u64 0, .int .u64 0, .int .u64 0, .int .u64 0, .int .u64 0, .int .u64 0, .int .u64 0, .int .u64 0, .int .u64 0, .int .u64 0, .int .u64 0], .int .u8 0, .int .u64 0], []⟩).memory Tryd.f4.params.toList Rows.keccakPermutesSpec.vars false (#[.agg #[.int .u64 0, .int .u64 0, .int .u64 0, .int .u64 0, .int .u64 0, .int .u64 0, .int .u64 0, .int .u64 0, .int .u64 0, .int .u64 0, .int .u64 0, .int .u64 0, .int .u64 0, .int .u64 0, .int .u64 0, .int .u64 0, .int .u64 0, .int .u64 0, .int .u64 0, .int .u64 0, .int .u64 0, .int .u64 0, .int .u64 0, .int .u64 0, .int .u64 0], .int .u8 0, .int .u64 0] : Array Value).toList 80 = some ([.agg [.lit (.int .u64 0), .lit (.int .u64 0), .lit (.int .u64 0), .lit (.int .u64 0), .lit (.int .u64 0), .lit (.int .u64 0), .lit (.int .u64 0), .lit (.int .u64 0), .lit (.int .u64 0), .lit (.int .u64 0), .lit (.int .u64 0), .lit (.int .u64 0), .lit (.int .u64 0), .lit (.int .u64 0), .lit (.int .u64 0), .lit (.int .u64 0), .lit (.int .u64 0), .lit (.int .u64 0), .lit (.int .u64 0), .lit (.int .u64 0), .lit (.int .u64 0), .lit (.int .u64 0), .lit (.int .u64 0), .lit (.int .u64 0), .lit (.int .u64 0)], .lit (.int .u8 0), .lit (.int .u64 0)], [], places) :=
  ⟨[], by kernel_rfl⟩

set_option maxRecDepth 100000 in
theorem lifted (os : Os) (started : os.Started) (H : Type) (enc : TypeId × Value → H) (F : Stop.Interp) :
    ReturnsInHanded {} Tryd.checked os 4 .any ((OpenSpec.ofChange Rows.keccakPermutesSpec).preRow enc Tryd.prog Tryd.f4 Rows.keccakPermutesRow.domain false Rows.keccakPermutesRow.laid) (((OpenSpec.ofChange Rows.keccakPermutesSpec).at F).post enc Tryd.prog Tryd.f4 false true false false) := by
  obtain ⟨places, hx⟩ := reads os enc
  refine returnsInHanded_of_row (C := Tryd.checked) (s := OpenSpec.ofChange Rows.keccakPermutesSpec) ownF started (by kernel_rfl) Tryd.func4
    (witness_row_at (enc := enc) (C := Tryd.checked) false (laidWorld os) #[.agg #[.int .u64 0, .int .u64 0, .int .u64 0, .int .u64 0, .int .u64 0, .int .u64 0, .int .u64 0, .int .u64 0, .int .u64 0, .int .u64 0, .int .u64 0, .int .u64 0, .int .u64 0, .int .u64 0, .int .u64 0, .int .u64 0, .int .u64 0, .int .u64 0, .int .u64 0, .int .u64 0, .int .u64 0, .int .u64 0, .int .u64 0, .int .u64 0, .int .u64 0], .int .u8 0, .int .u64 0] rfl (by kernel_rfl) (by kernel_rfl) (by kernel_rfl)
      (OpenSpec.preRow_of_cond 80 hx (by kernel_rfl) (fun k hk => by cases hk) (by kernel_rfl) (laid_met os))) ?_
  intro W base args ds gs before hval hW _ _ _ hlaid _ _
  exact contract H enc W base args ds gs before hval hW (tabs_of hlaid (by simp [Rows.keccakPermutesRow]) (by simp [Rows.keccakPermutesRow]))

theorem said : Rows.KeccakPermutesSaid :=
  OpenClaim.holds_of_cond 4 Tryd.f4 rfl rfl rfl rfl rfl rfl rfl ⟨rfl, rfl, rfl, rfl, rfl⟩ rfl rfl rfl rfl rfl (by kernel_rfl) Tryd.func4 (by kernel_rfl)
    (of_decide_eq_true (by kernel_rfl)) (by unfold Func.isWrapper; rw [if_neg (of_decide_eq_false (by kernel_rfl))]; exact ⟨rfl, rfl⟩)
    (fun os started H enc _ F => by rw [OpenClaim.pre_eq_preRow]; exact lifted os started H enc F)

/-- No parameter wants a stand-in; the program's own looks are off: what the card asks. -/
theorem plain (f : FuncId) (fn : Func) (hf : Tryd.pinned.checked.prog.funcNamed "bailiwick/bailiwicklaw03.KeccakPermutes" = some f) (hfn : Tryd.pinned.checked.prog.funcs[f]? = some fn) :
    false = Tryd.pinned.checked.prog.looks [] ∧ ∀ (j : Nat) t, fn.params[j]? = some t → Tryd.pinned.checked.prog.wantsStandIn t = false := by
  obtain rfl : f = 4 := Option.some.inj ((show Tryd.prog.funcNamed "bailiwick/bailiwicklaw03.KeccakPermutes" = some 4 by kernel_rfl).symm.trans hf) |>.symm
  obtain rfl : fn = Tryd.f4 := (Option.some.inj (Tryd.func4.symm.trans hfn)).symm
  refine ⟨by kernel_rfl, fun j t ht => ?_⟩
  rw [Tryd.params4] at ht
  have hm := Array.mem_of_getElem? ht
  simp only [List.mem_toArray, List.mem_cons, List.not_mem_nil, or_false] at hm
  rcases hm with rfl | rfl | rfl
  · exact (show Tryd.prog.wantsStandIn 35 = false by kernel_rfl)
  · exact (show Tryd.prog.wantsStandIn 5 = false by kernel_rfl)
  · exact (show Tryd.prog.wantsStandIn 34 = false by kernel_rfl)

/-- THE CARD. -/
theorem card : Rows.KeccakPermutesCardSaid :=
  Claim7.holds_tied_plain_at .later [] _ _ _ _ said (fun _ h => by cases h) (by kernel_rfl) (fun _ h => by cases h) keccakPermutes_row_tie rfl ⟨rfl, rfl⟩ (by kernel_rfl) rfl plain (by kernel_rfl)
end Go.Proofs.YtcmpnnfnkcmpcaaDoor.keccakPermutes

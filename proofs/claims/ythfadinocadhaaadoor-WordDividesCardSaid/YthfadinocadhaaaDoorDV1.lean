/- What bailiwickref01.SDivMod comes to, called with any words. (With it, merged: RSDM.) -/
import Derived.Test.YthfadinocadhaaaDoorN1
namespace Go.Proofs.YthfadinocadhaaaDoor
open Go.RowKit

/-- So many blocks hold words. -/
def Rws (L : List (Nat × Array Value)) (w : World) : Prop := ∀ p ∈ L, w.heap[p.1]? = some (.cells p.2 24 (0, 0))
theorem Rws.is {L : List (Nat × Array Value)} {w : World} (h : Rws L w) (g : Nat) (cs : Array Value) (hm : (g, cs) ∈ L) : w.heap[g]? = some (.cells cs 24 (0, 0)) := h _ hm
theorem Rws.below {L : List (Nat × Array Value)} {w w' : World} (h : Rws L w) (hb : Below w.heap.size w w') : Rws L w' := fun p hp => (hb.block _ (Array.getElem?_eq_some_iff.1 (h p hp)).1).trans (h p hp)
theorem Rws.new {L : List (Nat × Array Value)} {w : World} (h : Rws L w) (cs : Array Value) : Rws ((w.heap.size, cs) :: L) (w.alloc (.cells cs 24)) := fun p hp => by
  rcases List.mem_cons.1 hp with rfl | hp
  · exact heap_alloc_new _ _
  · exact (heap_alloc_old _ _ (Array.getElem?_eq_some_iff.1 (h p hp)).1).trans (h p hp)
theorem Rws.row {L : List (Nat × Array Value)} {w : World} (h : Rws L w) (g : Nat) (c0 cs : Array Value) (L' : List (Nat × Array Value)) (hm : (g, c0) ∈ L) (hs : ∀ p ∈ L', p ∈ L ∧ p.1 ≠ g) : Rws ((g, cs) :: L') (w.setRow g cs) := fun p hp => by
  rcases List.mem_cons.1 hp with rfl | hp
  · exact setRow_heap _ _ _ _ _ _ (h _ hm)
  · exact (setRow_other _ _ _ _ (hs p hp).2).trans (h p (hs p hp).1)
theorem Rws.lt {L : List (Nat × Array Value)} {w : World} (h : Rws L w) (g : Nat) (cs : Array Value) (hm : (g, cs) ∈ L) : g < w.heap.size := (Array.getElem?_eq_some_iff.1 (h _ hm)).1
theorem neqb' (a b : Bool) (w : World) : (binOp BinOp.neq 4 (.bool a) (.bool b)).run Tryd.prog w = .ok (.bool (a != b)) w := neqb a b w
/-- The worlds of the last statement. -/
def RX (a b : Nat) (q r : Array Value) (w w' : World) : Prop := w.heap.size ≤ w'.heap.size ∧ (w.heap[a]? = some (.cells q 24 (0, 0)) → w'.heap[a]? = some (.cells q 24 (0, 0))) ∧ (w.heap[b]? = some (.cells r 24 (0, 0)) → w'.heap[b]? = some (.cells r 24 (0, 0)))
structure CX (w : World) (c d : Nat) (q r : Array Value) (wx : World) : Prop where
  old : Below w.heap.size w wx
  rc : wx.heap[c]? = some (.cells q 24 (0, 0))
  rd : wx.heap[d]? = some (.cells r 24 (0, 0))
  ra : ∃ cs : Array Value, cs.size = 4 ∧ wx.heap[w.heap.size + 1 + 1]? = some (.cells cs 24 (0, 0))
  rb : ∃ cs : Array Value, cs.size = 4 ∧ wx.heap[w.heap.size + 1 + 1 + 1]? = some (.cells cs 24 (0, 0))
  hc : w.heap.size + 1 + 1 + 1 < c
  hd : w.heap.size + 1 + 1 + 1 < d
theorem CX.ra' {w wx : World} {c d : Nat} {q r : Array Value} (h : CX w c d q r wx) (cs : Array Value) (hs : cs.size = 4) : CX w c d q r (wx.setRow (w.heap.size + 1 + 1) cs) := by
  have h1 := h.hc
  have h2 := h.hd
  obtain ⟨cs0, hs0, e0⟩ := h.ra
  obtain ⟨cs1, hs1, e1⟩ := h.rb
  exact ⟨below_setRow h.old (by omega) _, (setRow_other _ _ _ _ (by omega)).trans h.rc, (setRow_other _ _ _ _ (by omega)).trans h.rd, ⟨cs, hs, setRow_heap _ _ _ _ _ _ e0⟩, ⟨cs1, hs1, (setRow_other _ _ _ _ (by omega)).trans e1⟩, h1, h2⟩
theorem CX.rb' {w wx : World} {c d : Nat} {q r : Array Value} (h : CX w c d q r wx) (cs : Array Value) (hs : cs.size = 4) : CX w c d q r (wx.setRow (w.heap.size + 1 + 1 + 1) cs) := by
  have h1 := h.hc
  have h2 := h.hd
  obtain ⟨cs0, hs0, e0⟩ := h.ra
  obtain ⟨cs1, hs1, e1⟩ := h.rb
  exact ⟨below_setRow h.old (by omega) _, (setRow_other _ _ _ _ (by omega)).trans h.rc, (setRow_other _ _ _ _ (by omega)).trans h.rd, ⟨cs0, hs0, (setRow_other _ _ _ _ (by omega)).trans e0⟩, ⟨cs, hs, setRow_heap _ _ _ _ _ _ e1⟩, h1, h2⟩

set_option maxRecDepth 100000 in
set_option maxHeartbeats 4000000 in
theorem sdm_true_true (x y X Y q r q' r' : Nat) (w : World)
    (hSx : ∀ w, Calls Tryd.prog 73 #[.agg (pw x)] w fun e w' => e = .returned (.tuple #[.bool true, .agg (pw X)]) ∧ Below w.heap.size w w')
    (hSy : ∀ w, Calls Tryd.prog 73 #[.agg (pw y)] w fun e w' => e = .returned (.tuple #[.bool true, .agg (pw Y)]) ∧ Below w.heap.size w w')
    (hD : ∀ w, Calls Tryd.prog 23 #[.agg (pw X), .agg (pw Y)] w fun e w' => e = .returned (.tuple #[.agg (pw q), .agg (pw r)]) ∧ Below w.heap.size w w')
    (hq : ∀ w, Calls Tryd.prog 65 #[.agg (pw q)] w fun e w' => e = .returned (.agg (pw q')) ∧ Below w.heap.size w w')
    (hr : ∀ w, Calls Tryd.prog 65 #[.agg (pw r)] w fun e w' => e = .returned (.agg (pw r')) ∧ Below w.heap.size w w') :
    Calls Tryd.prog 24 #[.agg (pw x), .agg (pw y)] w fun e w' => e = .returned (.tuple #[.agg (pw q), .agg (pw r')]) ∧ Below w.heap.size w w' := by
  have HSX := Lib.hid hSx; clear hSx
  have HSY := Lib.hid hSy; clear hSy
  have HD := Lib.hid hD; clear hD
  have HQ := Lib.hid hq; clear hq
  have HR := Lib.hid hr; clear hr
  have h4 := heap4 w (.cells (pw x) 24) (.cells (pw y) 24) (.cells #[.int .u64 0, .int .u64 0, .int .u64 0, .int .u64 0] 24) (.cells #[.int .u64 0, .int .u64 0, .int .u64 0, .int .u64 0] 24)
  have A0 : Hid (Rws [(w.heap.size, pw x), (w.heap.size + 1, pw y), (w.heap.size + 1 + 1, #[.int .u64 0, .int .u64 0, .int .u64 0, .int .u64 0]), (w.heap.size + 1 + 1 + 1, #[.int .u64 0, .int .u64 0, .int .u64 0, .int .u64 0])] ((((w.alloc (.cells (pw x) 24)).alloc (.cells (pw y) 24)).alloc (.cells #[.int .u64 0, .int .u64 0, .int .u64 0, .int .u64 0] 24)).alloc (.cells #[.int .u64 0, .int .u64 0, .int .u64 0, .int .u64 0] 24))) := Lib.hid (by
    intro p hp
    simp only [List.mem_cons, List.not_mem_nil, or_false] at hp
    rcases hp with rfl | rfl | rfl | rfl
    · exact h4.1
    · exact h4.2.1
    · exact h4.2.2.1
    · exact h4.2.2.2)
  clear h4
  have B0 : Hid (Below w.heap.size w ((((w.alloc (.cells (pw x) 24)).alloc (.cells (pw y) 24)).alloc (.cells #[.int .u64 0, .int .u64 0, .int .u64 0, .int .u64 0] 24)).alloc (.cells #[.int .u64 0, .int .u64 0, .int .u64 0, .int .u64 0] 24))) := Lib.hid (by go_grown)
  go_enter Tryd.func24, Tryd.ntmps24
  go_wp2_with (refine wpList_load_row rfl 24 _ rfl (w.heap.size) rfl 24 (pw x) (0, 0) _ (A0.out.is (w.heap.size) (pw x) (by simp)) Tryd.underlying24 rfl infoWord ?_)
  refine (HSX.out _).mono ?_
  rintro e w1 ⟨rfl, hb⟩
  have A1 := Lib.hid (A0.out.below hb)
  have B1 := Lib.hid (B0.out.trans (hb.mono (by simp; omega)))
  have hl1 := A1.out.lt (w.heap.size + 1 + 1 + 1) #[.int .u64 0, .int .u64 0, .int .u64 0, .int .u64 0] (by simp)
  clear hb
  have A2 := Lib.hid (A1.out.new #[.int .u64 0, .int .u64 0, .int .u64 0, .int .u64 0])
  have A3 := Lib.hid (A2.out.row w1.heap.size #[.int .u64 0, .int .u64 0, .int .u64 0, .int .u64 0] (pw X) [(w.heap.size, pw x), (w.heap.size + 1, pw y), (w.heap.size + 1 + 1, #[.int .u64 0, .int .u64 0, .int .u64 0, .int .u64 0]), (w.heap.size + 1 + 1 + 1, #[.int .u64 0, .int .u64 0, .int .u64 0, .int .u64 0])] (by simp) (by simp; omega))
  go_wp2_with (first | (refine wpList_store_row rfl 24 _ _ rfl (w1.heap.size) (pw X) rfl rfl 24 (#[.int .u64 0, .int .u64 0, .int .u64 0, .int .u64 0]) (A2.out.is (w1.heap.size) (#[.int .u64 0, .int .u64 0, .int .u64 0, .int .u64 0]) (by simp)) infoWord rfl (pw_one _) ?_) | (refine wpList_load_row rfl 24 _ rfl (w.heap.size + 1) rfl 24 (pw y) (0, 0) _ (A3.out.is (w.heap.size + 1) (pw y) (by simp)) Tryd.underlying24 rfl infoWord ?_))
  refine (HSY.out _).mono ?_
  rintro e w2 ⟨rfl, hb⟩
  have hz2 : w1.heap.size < w2.heap.size := by have := hb.size; simp at this; omega
  have A4 := Lib.hid (A3.out.below hb)
  have B2 := Lib.hid (B1.out.trans ((below_setRow ((Below.refl w1.heap.size w1).alloc (Nat.le_refl _) (.cells #[.int .u64 0, .int .u64 0, .int .u64 0, .int .u64 0] 24)) (Nat.le_refl _) (pw X)).mono (by omega) |>.trans (hb.mono (by simp; omega))))
  clear hb
  have A5 := Lib.hid (A4.out.new #[.int .u64 0, .int .u64 0, .int .u64 0, .int .u64 0])
  have A6 := Lib.hid (A5.out.row w2.heap.size #[.int .u64 0, .int .u64 0, .int .u64 0, .int .u64 0] (pw Y) [(w1.heap.size, pw X), (w.heap.size, pw x), (w.heap.size + 1, pw y), (w.heap.size + 1 + 1, #[.int .u64 0, .int .u64 0, .int .u64 0, .int .u64 0]), (w.heap.size + 1 + 1 + 1, #[.int .u64 0, .int .u64 0, .int .u64 0, .int .u64 0])] (by simp) (by simp; omega))
  go_wp2_with (first | (refine wpList_store_row rfl 24 _ _ rfl (w2.heap.size) (pw Y) rfl rfl 24 (#[.int .u64 0, .int .u64 0, .int .u64 0, .int .u64 0]) (A5.out.is (w2.heap.size) (#[.int .u64 0, .int .u64 0, .int .u64 0, .int .u64 0]) (by simp)) infoWord rfl (pw_one _) ?_) | (refine wpList_load_row rfl 24 _ rfl (w1.heap.size) rfl 24 (pw X) (0, 0) _ (A6.out.is (w1.heap.size) (pw X) (by simp)) Tryd.underlying24 rfl infoWord ?_) | (refine wpList_load_row rfl 24 _ rfl (w2.heap.size) rfl 24 (pw Y) (0, 0) _ (A6.out.is (w2.heap.size) (pw Y) (by simp)) Tryd.underlying24 rfl infoWord ?_))
  refine (HD.out _).mono ?_
  rintro e w3 ⟨rfl, hb⟩
  have hz3 : w2.heap.size < w3.heap.size := by have := hb.size; simp at this; omega
  have A7 := Lib.hid (A6.out.below hb)
  have B3 := Lib.hid (B2.out.trans ((below_setRow ((Below.refl w2.heap.size w2).alloc (Nat.le_refl _) (.cells #[.int .u64 0, .int .u64 0, .int .u64 0, .int .u64 0] 24)) (Nat.le_refl _) (pw Y)).mono (by omega) |>.trans (hb.mono (by simp; omega))))
  clear hb
  have A8 := Lib.hid ((A7.out.new #[.int .u64 0, .int .u64 0, .int .u64 0, .int .u64 0]).new #[.int .u64 0, .int .u64 0, .int .u64 0, .int .u64 0])
  have hsz : (w3.alloc (.cells #[.int .u64 0, .int .u64 0, .int .u64 0, .int .u64 0] 24)).heap.size = w3.heap.size + 1 := by simp
  have A8' : Hid (Rws [(w3.heap.size + 1, #[.int .u64 0, .int .u64 0, .int .u64 0, .int .u64 0]), (w3.heap.size, #[.int .u64 0, .int .u64 0, .int .u64 0, .int .u64 0]), (w.heap.size, pw x), (w.heap.size + 1, pw y), (w.heap.size + 1 + 1, #[.int .u64 0, .int .u64 0, .int .u64 0, .int .u64 0]), (w.heap.size + 1 + 1 + 1, #[.int .u64 0, .int .u64 0, .int .u64 0, .int .u64 0])] ((w3.alloc (.cells #[.int .u64 0, .int .u64 0, .int .u64 0, .int .u64 0] 24)).alloc (.cells #[.int .u64 0, .int .u64 0, .int .u64 0, .int .u64 0] 24))) := Lib.hid (fun p hp => A8.out p (by rw [hsz]; simp at hp ⊢; rcases hp with h | h | h | h | h | h <;> simp [h]))
  clear A8
  have A9 := Lib.hid (A8'.out.row w3.heap.size #[.int .u64 0, .int .u64 0, .int .u64 0, .int .u64 0] (pw q) [(w3.heap.size + 1, #[.int .u64 0, .int .u64 0, .int .u64 0, .int .u64 0]), (w.heap.size, pw x), (w.heap.size + 1, pw y), (w.heap.size + 1 + 1, #[.int .u64 0, .int .u64 0, .int .u64 0, .int .u64 0]), (w.heap.size + 1 + 1 + 1, #[.int .u64 0, .int .u64 0, .int .u64 0, .int .u64 0])] (by simp) (by simp; omega))
  have A10 := Lib.hid (A9.out.row (w3.heap.size + 1) #[.int .u64 0, .int .u64 0, .int .u64 0, .int .u64 0] (pw r) [(w3.heap.size, pw q), (w.heap.size, pw x), (w.heap.size + 1, pw y), (w.heap.size + 1 + 1, #[.int .u64 0, .int .u64 0, .int .u64 0, .int .u64 0]), (w.heap.size + 1 + 1 + 1, #[.int .u64 0, .int .u64 0, .int .u64 0, .int .u64 0])] (by simp) (by simp; omega))
  have B4 : Hid (Below w.heap.size w ((((w3.alloc (.cells #[.int .u64 0, .int .u64 0, .int .u64 0, .int .u64 0] 24)).alloc (.cells #[.int .u64 0, .int .u64 0, .int .u64 0, .int .u64 0] 24)).setRow w3.heap.size (pw q)).setRow (w3.heap.size + 1) (pw r))) := Lib.hid (below_setRow (below_setRow (B3.out.trans (Below.mono (B := w3.heap.size) (by go_grown) (by omega))) (by omega) _) (by omega) _)
  go_wp2_with (first | (refine wpList_store_row rfl 24 _ _ rfl (w3.heap.size) (pw q) rfl rfl 24 (#[.int .u64 0, .int .u64 0, .int .u64 0, .int .u64 0]) (A8'.out.is (w3.heap.size) (#[.int .u64 0, .int .u64 0, .int .u64 0, .int .u64 0]) (by simp)) infoWord rfl (pw_one _) ?_) | (refine wpList_store_row rfl 24 _ _ rfl (w3.heap.size + 1) (pw r) rfl rfl 24 (#[.int .u64 0, .int .u64 0, .int .u64 0, .int .u64 0]) (A9.out.is (w3.heap.size + 1) (#[.int .u64 0, .int .u64 0, .int .u64 0, .int .u64 0]) (by simp)) infoWord rfl (pw_one _) ?_) | (refine wpList_load_row rfl 24 _ rfl (w3.heap.size + 1) rfl 24 (pw r) (0, 0) _ (A10.out.is (w3.heap.size + 1) (pw r) (by simp)) Tryd.underlying24 rfl infoWord ?_))
  refine (HR.out _).mono ?_
  rintro e w5 ⟨rfl, hb⟩
  have A13 := Lib.hid (A10.out.below hb)
  have hz5 : w3.heap.size + 1 < w5.heap.size := A13.out.lt (w3.heap.size + 1) (pw r) (by simp)
  have B7 := Lib.hid (B4.out.trans (hb.mono (by simp; omega)))
  clear hb
  have A14 := Lib.hid (A13.out.row (w3.heap.size + 1) (pw r) (pw r') [(w3.heap.size, pw q), (w.heap.size, pw x), (w.heap.size + 1, pw y), (w.heap.size + 1 + 1, #[.int .u64 0, .int .u64 0, .int .u64 0, .int .u64 0]), (w.heap.size + 1 + 1 + 1, #[.int .u64 0, .int .u64 0, .int .u64 0, .int .u64 0])] (by simp) (by simp; omega))
  have B8 := Lib.hid (below_setRow B7.out (g := w3.heap.size + 1) (by omega) (pw r'))
  go_wp2_with (refine wpList_store_row rfl 24 _ _ rfl (w3.heap.size + 1) (pw r') rfl rfl 24 (pw r) (A13.out.is (w3.heap.size + 1) (pw r) (by simp)) infoWord rfl (pw_one _) ?_)
  refine region_tie (CX w w3.heap.size (w3.heap.size + 1) (pw q) (pw r')) (fun i s wx => match i with | 0 => s 36 = wv (q) | 1 => s 37 = wv (r') | 2 => wx.heap[w.heap.size + 1 + 1]? = some (.cells (pw q) 24 (0, 0)) | 3 => wx.heap[w.heap.size + 1 + 1 + 1]? = some (.cells (pw r') 24 (0, 0)) | _ => True) (RX (w.heap.size + 1 + 1) (w.heap.size + 1 + 1 + 1) (pw q) (pw r')) (fun i => match i with | 0 => [36] | 1 => [37] | _ => []) (fun i => i) (by kernel_rfl) (by kernel_rfl) ⟨B8.out.drew, A14.out.is (w3.heap.size) (pw q) (by simp), A14.out.is (w3.heap.size + 1) (pw r') (by simp), ⟨#[.int .u64 0, .int .u64 0, .int .u64 0, .int .u64 0], rfl, A14.out.is (w.heap.size + 1 + 1) #[.int .u64 0, .int .u64 0, .int .u64 0, .int .u64 0] (by simp)⟩, ⟨#[.int .u64 0, .int .u64 0, .int .u64 0, .int .u64 0], rfl, A14.out.is (w.heap.size + 1 + 1 + 1) #[.int .u64 0, .int .u64 0, .int .u64 0, .int .u64 0] (by simp)⟩, by omega, by omega⟩ ?_ ?_ ?_ ?_
  · intro i s s' wx he hp
    match i, he, hp with
    | 0, he, hp => exact (he 36 (by simp)).symm.trans hp
    | 1, he, hp => exact (he 37 (by simp)).symm.trans hp
    | 2, _, hp => exact hp
    | 3, _, hp => exact hp
    | _ + 4, _, _ => trivial
  · intro i s wa wb hR hp
    match i, hp with
    | 0, hp => exact hp
    | 1, hp => exact hp
    | 2, hp => exact hR.2.1 hp
    | 3, hp => exact hR.2.2 hp
    | _ + 4, _ => trivial
  · refine ⟨?_, ?_, ?_, ?_, trivial⟩
    · intro a wx hC hsz hK
      exact tt_load 24 (.tmp 10) (.pointer (some ⟨w3.heap.size, 0, none⟩)) (wv (q)) rfl (by kernel_rfl) (hK.1 10 (by kernel_rfl)) (load_pw hC.rc) hC (slots_put _ _ _ (by rw [hsz]; exact of_decide_eq_true (by kernel_rfl))) ⟨Nat.le_refl _, id, id⟩
    · intro a wx hC hsz hK
      exact tt_load 24 (.tmp 11) (.pointer (some ⟨w3.heap.size + 1, 0, none⟩)) (wv (r')) rfl (by kernel_rfl) (hK.1 11 (by kernel_rfl)) (load_pw hC.rd) hC (slots_put _ _ _ (by rw [hsz]; exact of_decide_eq_true (by kernel_rfl))) ⟨Nat.le_refl _, id, id⟩
    · intro a wx hC hsz hK
      have h0 : a.tmps.getD 36 undef = wv (q) := hK.2 ⟨0, .data⟩ (by simp) rfl _ rfl
      obtain ⟨cs, hcs, e0⟩ := hC.ra
      exact tt_store (by kernel_rfl) rfl (run_store 24 (.tmp 4) (.tmp 36) _ _ rfl (hK.1 4 (by kernel_rfl)) h0 (store_pw hcs e0)) (hC.ra' _ rfl) (setRow_heap _ _ _ _ _ _ e0) ⟨by simp, fun _ => setRow_heap _ _ _ _ _ _ e0, fun h => (setRow_other _ _ _ _ (by omega)).trans h⟩
    · intro a wx hC hsz hK
      have h0 : a.tmps.getD 37 undef = wv (r') := hK.2 ⟨1, .data⟩ (by simp) rfl _ rfl
      obtain ⟨cs, hcs, e0⟩ := hC.rb
      exact tt_store (by kernel_rfl) rfl (run_store 24 (.tmp 5) (.tmp 37) _ _ rfl (hK.1 5 (by kernel_rfl)) h0 (store_pw hcs e0)) (hC.rb' _ rfl) (setRow_heap _ _ _ _ _ _ e0) ⟨by simp, fun h => (setRow_other _ _ _ _ (by omega)).trans h, fun _ => setRow_heap _ _ _ _ _ _ e0⟩
  · intro f wx hC hf
    have e2 : wx.heap[w.heap.size + 1 + 1]? = some (.cells (pw q) 24 (0, 0)) := hf 2 _ rfl
    have e3 : wx.heap[w.heap.size + 1 + 1 + 1]? = some (.cells (pw r') 24 (0, 0)) := hf 3 _ rfl
    have hB := hC.old
    clear hf hC
    generalize hA : putAll _ _ _ = A
    have h4 : A.tmps.getD 4 undef = Value.pointer (some ⟨w.heap.size + 1 + 1, 0, none⟩) := by subst hA; kernel_rfl
    have h5 : A.tmps.getD 5 undef = Value.pointer (some ⟨w.heap.size + 1 + 1 + 1, 0, none⟩) := by subst hA; kernel_rfl
    have hd : A.defers = [] := by subst hA; kernel_rfl
    clear hA
    go_wp2
    (try simp only [Exit.inBlock, Exit.then])
    exact bodyPost_ret (v := .tuple #[.agg (pw q), .agg (pw r')]) (results_two (p := 4) (q := 5) rfl _ _ (w.heap.size + 1 + 1) (w.heap.size + 1 + 1 + 1) _ _ (0, 0) h4 h5 e2 e3 infoWord infoWord) hd ⟨rfl, hB⟩

set_option maxRecDepth 100000 in
set_option maxHeartbeats 4000000 in
theorem sdm_true_false (x y X Y q r q' r' : Nat) (w : World)
    (hSx : ∀ w, Calls Tryd.prog 73 #[.agg (pw x)] w fun e w' => e = .returned (.tuple #[.bool true, .agg (pw X)]) ∧ Below w.heap.size w w')
    (hSy : ∀ w, Calls Tryd.prog 73 #[.agg (pw y)] w fun e w' => e = .returned (.tuple #[.bool false, .agg (pw Y)]) ∧ Below w.heap.size w w')
    (hD : ∀ w, Calls Tryd.prog 23 #[.agg (pw X), .agg (pw Y)] w fun e w' => e = .returned (.tuple #[.agg (pw q), .agg (pw r)]) ∧ Below w.heap.size w w')
    (hq : ∀ w, Calls Tryd.prog 65 #[.agg (pw q)] w fun e w' => e = .returned (.agg (pw q')) ∧ Below w.heap.size w w')
    (hr : ∀ w, Calls Tryd.prog 65 #[.agg (pw r)] w fun e w' => e = .returned (.agg (pw r')) ∧ Below w.heap.size w w') :
    Calls Tryd.prog 24 #[.agg (pw x), .agg (pw y)] w fun e w' => e = .returned (.tuple #[.agg (pw q'), .agg (pw r')]) ∧ Below w.heap.size w w' := by
  have HSX := Lib.hid hSx; clear hSx
  have HSY := Lib.hid hSy; clear hSy
  have HD := Lib.hid hD; clear hD
  have HQ := Lib.hid hq; clear hq
  have HR := Lib.hid hr; clear hr
  have h4 := heap4 w (.cells (pw x) 24) (.cells (pw y) 24) (.cells #[.int .u64 0, .int .u64 0, .int .u64 0, .int .u64 0] 24) (.cells #[.int .u64 0, .int .u64 0, .int .u64 0, .int .u64 0] 24)
  have A0 : Hid (Rws [(w.heap.size, pw x), (w.heap.size + 1, pw y), (w.heap.size + 1 + 1, #[.int .u64 0, .int .u64 0, .int .u64 0, .int .u64 0]), (w.heap.size + 1 + 1 + 1, #[.int .u64 0, .int .u64 0, .int .u64 0, .int .u64 0])] ((((w.alloc (.cells (pw x) 24)).alloc (.cells (pw y) 24)).alloc (.cells #[.int .u64 0, .int .u64 0, .int .u64 0, .int .u64 0] 24)).alloc (.cells #[.int .u64 0, .int .u64 0, .int .u64 0, .int .u64 0] 24))) := Lib.hid (by
    intro p hp
    simp only [List.mem_cons, List.not_mem_nil, or_false] at hp
    rcases hp with rfl | rfl | rfl | rfl
    · exact h4.1
    · exact h4.2.1
    · exact h4.2.2.1
    · exact h4.2.2.2)
  clear h4
  have B0 : Hid (Below w.heap.size w ((((w.alloc (.cells (pw x) 24)).alloc (.cells (pw y) 24)).alloc (.cells #[.int .u64 0, .int .u64 0, .int .u64 0, .int .u64 0] 24)).alloc (.cells #[.int .u64 0, .int .u64 0, .int .u64 0, .int .u64 0] 24))) := Lib.hid (by go_grown)
  go_enter Tryd.func24, Tryd.ntmps24
  go_wp2_with (refine wpList_load_row rfl 24 _ rfl (w.heap.size) rfl 24 (pw x) (0, 0) _ (A0.out.is (w.heap.size) (pw x) (by simp)) Tryd.underlying24 rfl infoWord ?_)
  refine (HSX.out _).mono ?_
  rintro e w1 ⟨rfl, hb⟩
  have A1 := Lib.hid (A0.out.below hb)
  have B1 := Lib.hid (B0.out.trans (hb.mono (by simp; omega)))
  have hl1 := A1.out.lt (w.heap.size + 1 + 1 + 1) #[.int .u64 0, .int .u64 0, .int .u64 0, .int .u64 0] (by simp)
  clear hb
  have A2 := Lib.hid (A1.out.new #[.int .u64 0, .int .u64 0, .int .u64 0, .int .u64 0])
  have A3 := Lib.hid (A2.out.row w1.heap.size #[.int .u64 0, .int .u64 0, .int .u64 0, .int .u64 0] (pw X) [(w.heap.size, pw x), (w.heap.size + 1, pw y), (w.heap.size + 1 + 1, #[.int .u64 0, .int .u64 0, .int .u64 0, .int .u64 0]), (w.heap.size + 1 + 1 + 1, #[.int .u64 0, .int .u64 0, .int .u64 0, .int .u64 0])] (by simp) (by simp; omega))
  go_wp2_with (first | (refine wpList_store_row rfl 24 _ _ rfl (w1.heap.size) (pw X) rfl rfl 24 (#[.int .u64 0, .int .u64 0, .int .u64 0, .int .u64 0]) (A2.out.is (w1.heap.size) (#[.int .u64 0, .int .u64 0, .int .u64 0, .int .u64 0]) (by simp)) infoWord rfl (pw_one _) ?_) | (refine wpList_load_row rfl 24 _ rfl (w.heap.size + 1) rfl 24 (pw y) (0, 0) _ (A3.out.is (w.heap.size + 1) (pw y) (by simp)) Tryd.underlying24 rfl infoWord ?_))
  refine (HSY.out _).mono ?_
  rintro e w2 ⟨rfl, hb⟩
  have hz2 : w1.heap.size < w2.heap.size := by have := hb.size; simp at this; omega
  have A4 := Lib.hid (A3.out.below hb)
  have B2 := Lib.hid (B1.out.trans ((below_setRow ((Below.refl w1.heap.size w1).alloc (Nat.le_refl _) (.cells #[.int .u64 0, .int .u64 0, .int .u64 0, .int .u64 0] 24)) (Nat.le_refl _) (pw X)).mono (by omega) |>.trans (hb.mono (by simp; omega))))
  clear hb
  have A5 := Lib.hid (A4.out.new #[.int .u64 0, .int .u64 0, .int .u64 0, .int .u64 0])
  have A6 := Lib.hid (A5.out.row w2.heap.size #[.int .u64 0, .int .u64 0, .int .u64 0, .int .u64 0] (pw Y) [(w1.heap.size, pw X), (w.heap.size, pw x), (w.heap.size + 1, pw y), (w.heap.size + 1 + 1, #[.int .u64 0, .int .u64 0, .int .u64 0, .int .u64 0]), (w.heap.size + 1 + 1 + 1, #[.int .u64 0, .int .u64 0, .int .u64 0, .int .u64 0])] (by simp) (by simp; omega))
  go_wp2_with (first | (refine wpList_store_row rfl 24 _ _ rfl (w2.heap.size) (pw Y) rfl rfl 24 (#[.int .u64 0, .int .u64 0, .int .u64 0, .int .u64 0]) (A5.out.is (w2.heap.size) (#[.int .u64 0, .int .u64 0, .int .u64 0, .int .u64 0]) (by simp)) infoWord rfl (pw_one _) ?_) | (refine wpList_load_row rfl 24 _ rfl (w1.heap.size) rfl 24 (pw X) (0, 0) _ (A6.out.is (w1.heap.size) (pw X) (by simp)) Tryd.underlying24 rfl infoWord ?_) | (refine wpList_load_row rfl 24 _ rfl (w2.heap.size) rfl 24 (pw Y) (0, 0) _ (A6.out.is (w2.heap.size) (pw Y) (by simp)) Tryd.underlying24 rfl infoWord ?_))
  refine (HD.out _).mono ?_
  rintro e w3 ⟨rfl, hb⟩
  have hz3 : w2.heap.size < w3.heap.size := by have := hb.size; simp at this; omega
  have A7 := Lib.hid (A6.out.below hb)
  have B3 := Lib.hid (B2.out.trans ((below_setRow ((Below.refl w2.heap.size w2).alloc (Nat.le_refl _) (.cells #[.int .u64 0, .int .u64 0, .int .u64 0, .int .u64 0] 24)) (Nat.le_refl _) (pw Y)).mono (by omega) |>.trans (hb.mono (by simp; omega))))
  clear hb
  have A8 := Lib.hid ((A7.out.new #[.int .u64 0, .int .u64 0, .int .u64 0, .int .u64 0]).new #[.int .u64 0, .int .u64 0, .int .u64 0, .int .u64 0])
  have hsz : (w3.alloc (.cells #[.int .u64 0, .int .u64 0, .int .u64 0, .int .u64 0] 24)).heap.size = w3.heap.size + 1 := by simp
  have A8' : Hid (Rws [(w3.heap.size + 1, #[.int .u64 0, .int .u64 0, .int .u64 0, .int .u64 0]), (w3.heap.size, #[.int .u64 0, .int .u64 0, .int .u64 0, .int .u64 0]), (w.heap.size, pw x), (w.heap.size + 1, pw y), (w.heap.size + 1 + 1, #[.int .u64 0, .int .u64 0, .int .u64 0, .int .u64 0]), (w.heap.size + 1 + 1 + 1, #[.int .u64 0, .int .u64 0, .int .u64 0, .int .u64 0])] ((w3.alloc (.cells #[.int .u64 0, .int .u64 0, .int .u64 0, .int .u64 0] 24)).alloc (.cells #[.int .u64 0, .int .u64 0, .int .u64 0, .int .u64 0] 24))) := Lib.hid (fun p hp => A8.out p (by rw [hsz]; simp at hp ⊢; rcases hp with h | h | h | h | h | h <;> simp [h]))
  clear A8
  have A9 := Lib.hid (A8'.out.row w3.heap.size #[.int .u64 0, .int .u64 0, .int .u64 0, .int .u64 0] (pw q) [(w3.heap.size + 1, #[.int .u64 0, .int .u64 0, .int .u64 0, .int .u64 0]), (w.heap.size, pw x), (w.heap.size + 1, pw y), (w.heap.size + 1 + 1, #[.int .u64 0, .int .u64 0, .int .u64 0, .int .u64 0]), (w.heap.size + 1 + 1 + 1, #[.int .u64 0, .int .u64 0, .int .u64 0, .int .u64 0])] (by simp) (by simp; omega))
  have A10 := Lib.hid (A9.out.row (w3.heap.size + 1) #[.int .u64 0, .int .u64 0, .int .u64 0, .int .u64 0] (pw r) [(w3.heap.size, pw q), (w.heap.size, pw x), (w.heap.size + 1, pw y), (w.heap.size + 1 + 1, #[.int .u64 0, .int .u64 0, .int .u64 0, .int .u64 0]), (w.heap.size + 1 + 1 + 1, #[.int .u64 0, .int .u64 0, .int .u64 0, .int .u64 0])] (by simp) (by simp; omega))
  have B4 : Hid (Below w.heap.size w ((((w3.alloc (.cells #[.int .u64 0, .int .u64 0, .int .u64 0, .int .u64 0] 24)).alloc (.cells #[.int .u64 0, .int .u64 0, .int .u64 0, .int .u64 0] 24)).setRow w3.heap.size (pw q)).setRow (w3.heap.size + 1) (pw r))) := Lib.hid (below_setRow (below_setRow (B3.out.trans (Below.mono (B := w3.heap.size) (by go_grown) (by omega))) (by omega) _) (by omega) _)
  go_wp2_with (first | (refine wpList_store_row rfl 24 _ _ rfl (w3.heap.size) (pw q) rfl rfl 24 (#[.int .u64 0, .int .u64 0, .int .u64 0, .int .u64 0]) (A8'.out.is (w3.heap.size) (#[.int .u64 0, .int .u64 0, .int .u64 0, .int .u64 0]) (by simp)) infoWord rfl (pw_one _) ?_) | (refine wpList_store_row rfl 24 _ _ rfl (w3.heap.size + 1) (pw r) rfl rfl 24 (#[.int .u64 0, .int .u64 0, .int .u64 0, .int .u64 0]) (A9.out.is (w3.heap.size + 1) (#[.int .u64 0, .int .u64 0, .int .u64 0, .int .u64 0]) (by simp)) infoWord rfl (pw_one _) ?_) | (refine wpList_load_row rfl 24 _ rfl (w3.heap.size) rfl 24 (pw q) (0, 0) _ (A10.out.is (w3.heap.size) (pw q) (by simp)) Tryd.underlying24 rfl infoWord ?_))
  refine (HQ.out _).mono ?_
  rintro e w4 ⟨rfl, hb⟩
  have A11 := Lib.hid (A10.out.below hb)
  have hz4 : w3.heap.size + 1 < w4.heap.size := A11.out.lt (w3.heap.size + 1) (pw r) (by simp)
  have B5 := Lib.hid (B4.out.trans (hb.mono (by simp; omega)))
  clear hb
  have A12 := Lib.hid (A11.out.row w3.heap.size (pw q) (pw q') [(w3.heap.size + 1, pw r), (w.heap.size, pw x), (w.heap.size + 1, pw y), (w.heap.size + 1 + 1, #[.int .u64 0, .int .u64 0, .int .u64 0, .int .u64 0]), (w.heap.size + 1 + 1 + 1, #[.int .u64 0, .int .u64 0, .int .u64 0, .int .u64 0])] (by simp) (by simp; omega))
  have B6 := Lib.hid (below_setRow B5.out (g := w3.heap.size) (by omega) (pw q'))
  go_wp2_with (first | (refine wpList_store_row rfl 24 _ _ rfl (w3.heap.size) (pw q') rfl rfl 24 (pw q) (A11.out.is (w3.heap.size) (pw q) (by simp)) infoWord rfl (pw_one _) ?_) | (refine wpList_load_row rfl 24 _ rfl (w3.heap.size + 1) rfl 24 (pw r) (0, 0) _ (A12.out.is (w3.heap.size + 1) (pw r) (by simp)) Tryd.underlying24 rfl infoWord ?_))
  refine (HR.out _).mono ?_
  rintro e w5 ⟨rfl, hb⟩
  have A13 := Lib.hid (A12.out.below hb)
  have hz5 : w3.heap.size + 1 < w5.heap.size := A13.out.lt (w3.heap.size + 1) (pw r) (by simp)
  have B7 := Lib.hid (B6.out.trans (hb.mono (by simp; omega)))
  clear hb
  have A14 := Lib.hid (A13.out.row (w3.heap.size + 1) (pw r) (pw r') [(w3.heap.size, pw q'), (w.heap.size, pw x), (w.heap.size + 1, pw y), (w.heap.size + 1 + 1, #[.int .u64 0, .int .u64 0, .int .u64 0, .int .u64 0]), (w.heap.size + 1 + 1 + 1, #[.int .u64 0, .int .u64 0, .int .u64 0, .int .u64 0])] (by simp) (by simp; omega))
  have B8 := Lib.hid (below_setRow B7.out (g := w3.heap.size + 1) (by omega) (pw r'))
  go_wp2_with (refine wpList_store_row rfl 24 _ _ rfl (w3.heap.size + 1) (pw r') rfl rfl 24 (pw r) (A13.out.is (w3.heap.size + 1) (pw r) (by simp)) infoWord rfl (pw_one _) ?_)
  refine region_tie (CX w w3.heap.size (w3.heap.size + 1) (pw q') (pw r')) (fun i s wx => match i with | 0 => s 36 = wv (q') | 1 => s 37 = wv (r') | 2 => wx.heap[w.heap.size + 1 + 1]? = some (.cells (pw q') 24 (0, 0)) | 3 => wx.heap[w.heap.size + 1 + 1 + 1]? = some (.cells (pw r') 24 (0, 0)) | _ => True) (RX (w.heap.size + 1 + 1) (w.heap.size + 1 + 1 + 1) (pw q') (pw r')) (fun i => match i with | 0 => [36] | 1 => [37] | _ => []) (fun i => i) (by kernel_rfl) (by kernel_rfl) ⟨B8.out.drew, A14.out.is (w3.heap.size) (pw q') (by simp), A14.out.is (w3.heap.size + 1) (pw r') (by simp), ⟨#[.int .u64 0, .int .u64 0, .int .u64 0, .int .u64 0], rfl, A14.out.is (w.heap.size + 1 + 1) #[.int .u64 0, .int .u64 0, .int .u64 0, .int .u64 0] (by simp)⟩, ⟨#[.int .u64 0, .int .u64 0, .int .u64 0, .int .u64 0], rfl, A14.out.is (w.heap.size + 1 + 1 + 1) #[.int .u64 0, .int .u64 0, .int .u64 0, .int .u64 0] (by simp)⟩, by omega, by omega⟩ ?_ ?_ ?_ ?_
  · intro i s s' wx he hp
    match i, he, hp with
    | 0, he, hp => exact (he 36 (by simp)).symm.trans hp
    | 1, he, hp => exact (he 37 (by simp)).symm.trans hp
    | 2, _, hp => exact hp
    | 3, _, hp => exact hp
    | _ + 4, _, _ => trivial
  · intro i s wa wb hR hp
    match i, hp with
    | 0, hp => exact hp
    | 1, hp => exact hp
    | 2, hp => exact hR.2.1 hp
    | 3, hp => exact hR.2.2 hp
    | _ + 4, _ => trivial
  · refine ⟨?_, ?_, ?_, ?_, trivial⟩
    · intro a wx hC hsz hK
      exact tt_load 24 (.tmp 10) (.pointer (some ⟨w3.heap.size, 0, none⟩)) (wv (q')) rfl (by kernel_rfl) (hK.1 10 (by kernel_rfl)) (load_pw hC.rc) hC (slots_put _ _ _ (by rw [hsz]; exact of_decide_eq_true (by kernel_rfl))) ⟨Nat.le_refl _, id, id⟩
    · intro a wx hC hsz hK
      exact tt_load 24 (.tmp 11) (.pointer (some ⟨w3.heap.size + 1, 0, none⟩)) (wv (r')) rfl (by kernel_rfl) (hK.1 11 (by kernel_rfl)) (load_pw hC.rd) hC (slots_put _ _ _ (by rw [hsz]; exact of_decide_eq_true (by kernel_rfl))) ⟨Nat.le_refl _, id, id⟩
    · intro a wx hC hsz hK
      have h0 : a.tmps.getD 36 undef = wv (q') := hK.2 ⟨0, .data⟩ (by simp) rfl _ rfl
      obtain ⟨cs, hcs, e0⟩ := hC.ra
      exact tt_store (by kernel_rfl) rfl (run_store 24 (.tmp 4) (.tmp 36) _ _ rfl (hK.1 4 (by kernel_rfl)) h0 (store_pw hcs e0)) (hC.ra' _ rfl) (setRow_heap _ _ _ _ _ _ e0) ⟨by simp, fun _ => setRow_heap _ _ _ _ _ _ e0, fun h => (setRow_other _ _ _ _ (by omega)).trans h⟩
    · intro a wx hC hsz hK
      have h0 : a.tmps.getD 37 undef = wv (r') := hK.2 ⟨1, .data⟩ (by simp) rfl _ rfl
      obtain ⟨cs, hcs, e0⟩ := hC.rb
      exact tt_store (by kernel_rfl) rfl (run_store 24 (.tmp 5) (.tmp 37) _ _ rfl (hK.1 5 (by kernel_rfl)) h0 (store_pw hcs e0)) (hC.rb' _ rfl) (setRow_heap _ _ _ _ _ _ e0) ⟨by simp, fun h => (setRow_other _ _ _ _ (by omega)).trans h, fun _ => setRow_heap _ _ _ _ _ _ e0⟩
  · intro f wx hC hf
    have e2 : wx.heap[w.heap.size + 1 + 1]? = some (.cells (pw q') 24 (0, 0)) := hf 2 _ rfl
    have e3 : wx.heap[w.heap.size + 1 + 1 + 1]? = some (.cells (pw r') 24 (0, 0)) := hf 3 _ rfl
    have hB := hC.old
    clear hf hC
    generalize hA : putAll _ _ _ = A
    have h4 : A.tmps.getD 4 undef = Value.pointer (some ⟨w.heap.size + 1 + 1, 0, none⟩) := by subst hA; kernel_rfl
    have h5 : A.tmps.getD 5 undef = Value.pointer (some ⟨w.heap.size + 1 + 1 + 1, 0, none⟩) := by subst hA; kernel_rfl
    have hd : A.defers = [] := by subst hA; kernel_rfl
    clear hA
    go_wp2
    (try simp only [Exit.inBlock, Exit.then])
    exact bodyPost_ret (v := .tuple #[.agg (pw q'), .agg (pw r')]) (results_two (p := 4) (q := 5) rfl _ _ (w.heap.size + 1 + 1) (w.heap.size + 1 + 1 + 1) _ _ (0, 0) h4 h5 e2 e3 infoWord infoWord) hd ⟨rfl, hB⟩

set_option maxRecDepth 100000 in
set_option maxHeartbeats 4000000 in
theorem sdm_false_true (x y X Y q r q' r' : Nat) (w : World)
    (hSx : ∀ w, Calls Tryd.prog 73 #[.agg (pw x)] w fun e w' => e = .returned (.tuple #[.bool false, .agg (pw X)]) ∧ Below w.heap.size w w')
    (hSy : ∀ w, Calls Tryd.prog 73 #[.agg (pw y)] w fun e w' => e = .returned (.tuple #[.bool true, .agg (pw Y)]) ∧ Below w.heap.size w w')
    (hD : ∀ w, Calls Tryd.prog 23 #[.agg (pw X), .agg (pw Y)] w fun e w' => e = .returned (.tuple #[.agg (pw q), .agg (pw r)]) ∧ Below w.heap.size w w')
    (hq : ∀ w, Calls Tryd.prog 65 #[.agg (pw q)] w fun e w' => e = .returned (.agg (pw q')) ∧ Below w.heap.size w w')
    (hr : ∀ w, Calls Tryd.prog 65 #[.agg (pw r)] w fun e w' => e = .returned (.agg (pw r')) ∧ Below w.heap.size w w') :
    Calls Tryd.prog 24 #[.agg (pw x), .agg (pw y)] w fun e w' => e = .returned (.tuple #[.agg (pw q'), .agg (pw r)]) ∧ Below w.heap.size w w' := by
  have HSX := Lib.hid hSx; clear hSx
  have HSY := Lib.hid hSy; clear hSy
  have HD := Lib.hid hD; clear hD
  have HQ := Lib.hid hq; clear hq
  have HR := Lib.hid hr; clear hr
  have h4 := heap4 w (.cells (pw x) 24) (.cells (pw y) 24) (.cells #[.int .u64 0, .int .u64 0, .int .u64 0, .int .u64 0] 24) (.cells #[.int .u64 0, .int .u64 0, .int .u64 0, .int .u64 0] 24)
  have A0 : Hid (Rws [(w.heap.size, pw x), (w.heap.size + 1, pw y), (w.heap.size + 1 + 1, #[.int .u64 0, .int .u64 0, .int .u64 0, .int .u64 0]), (w.heap.size + 1 + 1 + 1, #[.int .u64 0, .int .u64 0, .int .u64 0, .int .u64 0])] ((((w.alloc (.cells (pw x) 24)).alloc (.cells (pw y) 24)).alloc (.cells #[.int .u64 0, .int .u64 0, .int .u64 0, .int .u64 0] 24)).alloc (.cells #[.int .u64 0, .int .u64 0, .int .u64 0, .int .u64 0] 24))) := Lib.hid (by
    intro p hp
    simp only [List.mem_cons, List.not_mem_nil, or_false] at hp
    rcases hp with rfl | rfl | rfl | rfl
    · exact h4.1
    · exact h4.2.1
    · exact h4.2.2.1
    · exact h4.2.2.2)
  clear h4
  have B0 : Hid (Below w.heap.size w ((((w.alloc (.cells (pw x) 24)).alloc (.cells (pw y) 24)).alloc (.cells #[.int .u64 0, .int .u64 0, .int .u64 0, .int .u64 0] 24)).alloc (.cells #[.int .u64 0, .int .u64 0, .int .u64 0, .int .u64 0] 24))) := Lib.hid (by go_grown)
  go_enter Tryd.func24, Tryd.ntmps24
  go_wp2_with (refine wpList_load_row rfl 24 _ rfl (w.heap.size) rfl 24 (pw x) (0, 0) _ (A0.out.is (w.heap.size) (pw x) (by simp)) Tryd.underlying24 rfl infoWord ?_)
  refine (HSX.out _).mono ?_
  rintro e w1 ⟨rfl, hb⟩
  have A1 := Lib.hid (A0.out.below hb)
  have B1 := Lib.hid (B0.out.trans (hb.mono (by simp; omega)))
  have hl1 := A1.out.lt (w.heap.size + 1 + 1 + 1) #[.int .u64 0, .int .u64 0, .int .u64 0, .int .u64 0] (by simp)
  clear hb
  have A2 := Lib.hid (A1.out.new #[.int .u64 0, .int .u64 0, .int .u64 0, .int .u64 0])
  have A3 := Lib.hid (A2.out.row w1.heap.size #[.int .u64 0, .int .u64 0, .int .u64 0, .int .u64 0] (pw X) [(w.heap.size, pw x), (w.heap.size + 1, pw y), (w.heap.size + 1 + 1, #[.int .u64 0, .int .u64 0, .int .u64 0, .int .u64 0]), (w.heap.size + 1 + 1 + 1, #[.int .u64 0, .int .u64 0, .int .u64 0, .int .u64 0])] (by simp) (by simp; omega))
  go_wp2_with (first | (refine wpList_store_row rfl 24 _ _ rfl (w1.heap.size) (pw X) rfl rfl 24 (#[.int .u64 0, .int .u64 0, .int .u64 0, .int .u64 0]) (A2.out.is (w1.heap.size) (#[.int .u64 0, .int .u64 0, .int .u64 0, .int .u64 0]) (by simp)) infoWord rfl (pw_one _) ?_) | (refine wpList_load_row rfl 24 _ rfl (w.heap.size + 1) rfl 24 (pw y) (0, 0) _ (A3.out.is (w.heap.size + 1) (pw y) (by simp)) Tryd.underlying24 rfl infoWord ?_))
  refine (HSY.out _).mono ?_
  rintro e w2 ⟨rfl, hb⟩
  have hz2 : w1.heap.size < w2.heap.size := by have := hb.size; simp at this; omega
  have A4 := Lib.hid (A3.out.below hb)
  have B2 := Lib.hid (B1.out.trans ((below_setRow ((Below.refl w1.heap.size w1).alloc (Nat.le_refl _) (.cells #[.int .u64 0, .int .u64 0, .int .u64 0, .int .u64 0] 24)) (Nat.le_refl _) (pw X)).mono (by omega) |>.trans (hb.mono (by simp; omega))))
  clear hb
  have A5 := Lib.hid (A4.out.new #[.int .u64 0, .int .u64 0, .int .u64 0, .int .u64 0])
  have A6 := Lib.hid (A5.out.row w2.heap.size #[.int .u64 0, .int .u64 0, .int .u64 0, .int .u64 0] (pw Y) [(w1.heap.size, pw X), (w.heap.size, pw x), (w.heap.size + 1, pw y), (w.heap.size + 1 + 1, #[.int .u64 0, .int .u64 0, .int .u64 0, .int .u64 0]), (w.heap.size + 1 + 1 + 1, #[.int .u64 0, .int .u64 0, .int .u64 0, .int .u64 0])] (by simp) (by simp; omega))
  go_wp2_with (first | (refine wpList_store_row rfl 24 _ _ rfl (w2.heap.size) (pw Y) rfl rfl 24 (#[.int .u64 0, .int .u64 0, .int .u64 0, .int .u64 0]) (A5.out.is (w2.heap.size) (#[.int .u64 0, .int .u64 0, .int .u64 0, .int .u64 0]) (by simp)) infoWord rfl (pw_one _) ?_) | (refine wpList_load_row rfl 24 _ rfl (w1.heap.size) rfl 24 (pw X) (0, 0) _ (A6.out.is (w1.heap.size) (pw X) (by simp)) Tryd.underlying24 rfl infoWord ?_) | (refine wpList_load_row rfl 24 _ rfl (w2.heap.size) rfl 24 (pw Y) (0, 0) _ (A6.out.is (w2.heap.size) (pw Y) (by simp)) Tryd.underlying24 rfl infoWord ?_))
  refine (HD.out _).mono ?_
  rintro e w3 ⟨rfl, hb⟩
  have hz3 : w2.heap.size < w3.heap.size := by have := hb.size; simp at this; omega
  have A7 := Lib.hid (A6.out.below hb)
  have B3 := Lib.hid (B2.out.trans ((below_setRow ((Below.refl w2.heap.size w2).alloc (Nat.le_refl _) (.cells #[.int .u64 0, .int .u64 0, .int .u64 0, .int .u64 0] 24)) (Nat.le_refl _) (pw Y)).mono (by omega) |>.trans (hb.mono (by simp; omega))))
  clear hb
  have A8 := Lib.hid ((A7.out.new #[.int .u64 0, .int .u64 0, .int .u64 0, .int .u64 0]).new #[.int .u64 0, .int .u64 0, .int .u64 0, .int .u64 0])
  have hsz : (w3.alloc (.cells #[.int .u64 0, .int .u64 0, .int .u64 0, .int .u64 0] 24)).heap.size = w3.heap.size + 1 := by simp
  have A8' : Hid (Rws [(w3.heap.size + 1, #[.int .u64 0, .int .u64 0, .int .u64 0, .int .u64 0]), (w3.heap.size, #[.int .u64 0, .int .u64 0, .int .u64 0, .int .u64 0]), (w.heap.size, pw x), (w.heap.size + 1, pw y), (w.heap.size + 1 + 1, #[.int .u64 0, .int .u64 0, .int .u64 0, .int .u64 0]), (w.heap.size + 1 + 1 + 1, #[.int .u64 0, .int .u64 0, .int .u64 0, .int .u64 0])] ((w3.alloc (.cells #[.int .u64 0, .int .u64 0, .int .u64 0, .int .u64 0] 24)).alloc (.cells #[.int .u64 0, .int .u64 0, .int .u64 0, .int .u64 0] 24))) := Lib.hid (fun p hp => A8.out p (by rw [hsz]; simp at hp ⊢; rcases hp with h | h | h | h | h | h <;> simp [h]))
  clear A8
  have A9 := Lib.hid (A8'.out.row w3.heap.size #[.int .u64 0, .int .u64 0, .int .u64 0, .int .u64 0] (pw q) [(w3.heap.size + 1, #[.int .u64 0, .int .u64 0, .int .u64 0, .int .u64 0]), (w.heap.size, pw x), (w.heap.size + 1, pw y), (w.heap.size + 1 + 1, #[.int .u64 0, .int .u64 0, .int .u64 0, .int .u64 0]), (w.heap.size + 1 + 1 + 1, #[.int .u64 0, .int .u64 0, .int .u64 0, .int .u64 0])] (by simp) (by simp; omega))
  have A10 := Lib.hid (A9.out.row (w3.heap.size + 1) #[.int .u64 0, .int .u64 0, .int .u64 0, .int .u64 0] (pw r) [(w3.heap.size, pw q), (w.heap.size, pw x), (w.heap.size + 1, pw y), (w.heap.size + 1 + 1, #[.int .u64 0, .int .u64 0, .int .u64 0, .int .u64 0]), (w.heap.size + 1 + 1 + 1, #[.int .u64 0, .int .u64 0, .int .u64 0, .int .u64 0])] (by simp) (by simp; omega))
  have B4 : Hid (Below w.heap.size w ((((w3.alloc (.cells #[.int .u64 0, .int .u64 0, .int .u64 0, .int .u64 0] 24)).alloc (.cells #[.int .u64 0, .int .u64 0, .int .u64 0, .int .u64 0] 24)).setRow w3.heap.size (pw q)).setRow (w3.heap.size + 1) (pw r))) := Lib.hid (below_setRow (below_setRow (B3.out.trans (Below.mono (B := w3.heap.size) (by go_grown) (by omega))) (by omega) _) (by omega) _)
  go_wp2_with (first | (refine wpList_store_row rfl 24 _ _ rfl (w3.heap.size) (pw q) rfl rfl 24 (#[.int .u64 0, .int .u64 0, .int .u64 0, .int .u64 0]) (A8'.out.is (w3.heap.size) (#[.int .u64 0, .int .u64 0, .int .u64 0, .int .u64 0]) (by simp)) infoWord rfl (pw_one _) ?_) | (refine wpList_store_row rfl 24 _ _ rfl (w3.heap.size + 1) (pw r) rfl rfl 24 (#[.int .u64 0, .int .u64 0, .int .u64 0, .int .u64 0]) (A9.out.is (w3.heap.size + 1) (#[.int .u64 0, .int .u64 0, .int .u64 0, .int .u64 0]) (by simp)) infoWord rfl (pw_one _) ?_) | (refine wpList_load_row rfl 24 _ rfl (w3.heap.size) rfl 24 (pw q) (0, 0) _ (A10.out.is (w3.heap.size) (pw q) (by simp)) Tryd.underlying24 rfl infoWord ?_))
  refine (HQ.out _).mono ?_
  rintro e w4 ⟨rfl, hb⟩
  have A11 := Lib.hid (A10.out.below hb)
  have hz4 : w3.heap.size + 1 < w4.heap.size := A11.out.lt (w3.heap.size + 1) (pw r) (by simp)
  have B5 := Lib.hid (B4.out.trans (hb.mono (by simp; omega)))
  clear hb
  have A12 := Lib.hid (A11.out.row w3.heap.size (pw q) (pw q') [(w3.heap.size + 1, pw r), (w.heap.size, pw x), (w.heap.size + 1, pw y), (w.heap.size + 1 + 1, #[.int .u64 0, .int .u64 0, .int .u64 0, .int .u64 0]), (w.heap.size + 1 + 1 + 1, #[.int .u64 0, .int .u64 0, .int .u64 0, .int .u64 0])] (by simp) (by simp; omega))
  have B6 := Lib.hid (below_setRow B5.out (g := w3.heap.size) (by omega) (pw q'))
  go_wp2_with (refine wpList_store_row rfl 24 _ _ rfl (w3.heap.size) (pw q') rfl rfl 24 (pw q) (A11.out.is (w3.heap.size) (pw q) (by simp)) infoWord rfl (pw_one _) ?_)
  refine region_tie (CX w w3.heap.size (w3.heap.size + 1) (pw q') (pw r)) (fun i s wx => match i with | 0 => s 36 = wv (q') | 1 => s 37 = wv (r) | 2 => wx.heap[w.heap.size + 1 + 1]? = some (.cells (pw q') 24 (0, 0)) | 3 => wx.heap[w.heap.size + 1 + 1 + 1]? = some (.cells (pw r) 24 (0, 0)) | _ => True) (RX (w.heap.size + 1 + 1) (w.heap.size + 1 + 1 + 1) (pw q') (pw r)) (fun i => match i with | 0 => [36] | 1 => [37] | _ => []) (fun i => i) (by kernel_rfl) (by kernel_rfl) ⟨B6.out.drew, A12.out.is (w3.heap.size) (pw q') (by simp), A12.out.is (w3.heap.size + 1) (pw r) (by simp), ⟨#[.int .u64 0, .int .u64 0, .int .u64 0, .int .u64 0], rfl, A12.out.is (w.heap.size + 1 + 1) #[.int .u64 0, .int .u64 0, .int .u64 0, .int .u64 0] (by simp)⟩, ⟨#[.int .u64 0, .int .u64 0, .int .u64 0, .int .u64 0], rfl, A12.out.is (w.heap.size + 1 + 1 + 1) #[.int .u64 0, .int .u64 0, .int .u64 0, .int .u64 0] (by simp)⟩, by omega, by omega⟩ ?_ ?_ ?_ ?_
  · intro i s s' wx he hp
    match i, he, hp with
    | 0, he, hp => exact (he 36 (by simp)).symm.trans hp
    | 1, he, hp => exact (he 37 (by simp)).symm.trans hp
    | 2, _, hp => exact hp
    | 3, _, hp => exact hp
    | _ + 4, _, _ => trivial
  · intro i s wa wb hR hp
    match i, hp with
    | 0, hp => exact hp
    | 1, hp => exact hp
    | 2, hp => exact hR.2.1 hp
    | 3, hp => exact hR.2.2 hp
    | _ + 4, _ => trivial
  · refine ⟨?_, ?_, ?_, ?_, trivial⟩
    · intro a wx hC hsz hK
      exact tt_load 24 (.tmp 10) (.pointer (some ⟨w3.heap.size, 0, none⟩)) (wv (q')) rfl (by kernel_rfl) (hK.1 10 (by kernel_rfl)) (load_pw hC.rc) hC (slots_put _ _ _ (by rw [hsz]; exact of_decide_eq_true (by kernel_rfl))) ⟨Nat.le_refl _, id, id⟩
    · intro a wx hC hsz hK
      exact tt_load 24 (.tmp 11) (.pointer (some ⟨w3.heap.size + 1, 0, none⟩)) (wv (r)) rfl (by kernel_rfl) (hK.1 11 (by kernel_rfl)) (load_pw hC.rd) hC (slots_put _ _ _ (by rw [hsz]; exact of_decide_eq_true (by kernel_rfl))) ⟨Nat.le_refl _, id, id⟩
    · intro a wx hC hsz hK
      have h0 : a.tmps.getD 36 undef = wv (q') := hK.2 ⟨0, .data⟩ (by simp) rfl _ rfl
      obtain ⟨cs, hcs, e0⟩ := hC.ra
      exact tt_store (by kernel_rfl) rfl (run_store 24 (.tmp 4) (.tmp 36) _ _ rfl (hK.1 4 (by kernel_rfl)) h0 (store_pw hcs e0)) (hC.ra' _ rfl) (setRow_heap _ _ _ _ _ _ e0) ⟨by simp, fun _ => setRow_heap _ _ _ _ _ _ e0, fun h => (setRow_other _ _ _ _ (by omega)).trans h⟩
    · intro a wx hC hsz hK
      have h0 : a.tmps.getD 37 undef = wv (r) := hK.2 ⟨1, .data⟩ (by simp) rfl _ rfl
      obtain ⟨cs, hcs, e0⟩ := hC.rb
      exact tt_store (by kernel_rfl) rfl (run_store 24 (.tmp 5) (.tmp 37) _ _ rfl (hK.1 5 (by kernel_rfl)) h0 (store_pw hcs e0)) (hC.rb' _ rfl) (setRow_heap _ _ _ _ _ _ e0) ⟨by simp, fun h => (setRow_other _ _ _ _ (by omega)).trans h, fun _ => setRow_heap _ _ _ _ _ _ e0⟩
  · intro f wx hC hf
    have e2 : wx.heap[w.heap.size + 1 + 1]? = some (.cells (pw q') 24 (0, 0)) := hf 2 _ rfl
    have e3 : wx.heap[w.heap.size + 1 + 1 + 1]? = some (.cells (pw r) 24 (0, 0)) := hf 3 _ rfl
    have hB := hC.old
    clear hf hC
    generalize hA : putAll _ _ _ = A
    have h4 : A.tmps.getD 4 undef = Value.pointer (some ⟨w.heap.size + 1 + 1, 0, none⟩) := by subst hA; kernel_rfl
    have h5 : A.tmps.getD 5 undef = Value.pointer (some ⟨w.heap.size + 1 + 1 + 1, 0, none⟩) := by subst hA; kernel_rfl
    have hd : A.defers = [] := by subst hA; kernel_rfl
    clear hA
    go_wp2
    (try simp only [Exit.inBlock, Exit.then])
    exact bodyPost_ret (v := .tuple #[.agg (pw q'), .agg (pw r)]) (results_two (p := 4) (q := 5) rfl _ _ (w.heap.size + 1 + 1) (w.heap.size + 1 + 1 + 1) _ _ (0, 0) h4 h5 e2 e3 infoWord infoWord) hd ⟨rfl, hB⟩

set_option maxRecDepth 100000 in
set_option maxHeartbeats 4000000 in
theorem sdm_false_false (x y X Y q r q' r' : Nat) (w : World)
    (hSx : ∀ w, Calls Tryd.prog 73 #[.agg (pw x)] w fun e w' => e = .returned (.tuple #[.bool false, .agg (pw X)]) ∧ Below w.heap.size w w')
    (hSy : ∀ w, Calls Tryd.prog 73 #[.agg (pw y)] w fun e w' => e = .returned (.tuple #[.bool false, .agg (pw Y)]) ∧ Below w.heap.size w w')
    (hD : ∀ w, Calls Tryd.prog 23 #[.agg (pw X), .agg (pw Y)] w fun e w' => e = .returned (.tuple #[.agg (pw q), .agg (pw r)]) ∧ Below w.heap.size w w')
    (hq : ∀ w, Calls Tryd.prog 65 #[.agg (pw q)] w fun e w' => e = .returned (.agg (pw q')) ∧ Below w.heap.size w w')
    (hr : ∀ w, Calls Tryd.prog 65 #[.agg (pw r)] w fun e w' => e = .returned (.agg (pw r')) ∧ Below w.heap.size w w') :
    Calls Tryd.prog 24 #[.agg (pw x), .agg (pw y)] w fun e w' => e = .returned (.tuple #[.agg (pw q), .agg (pw r)]) ∧ Below w.heap.size w w' := by
  have HSX := Lib.hid hSx; clear hSx
  have HSY := Lib.hid hSy; clear hSy
  have HD := Lib.hid hD; clear hD
  have HQ := Lib.hid hq; clear hq
  have HR := Lib.hid hr; clear hr
  have h4 := heap4 w (.cells (pw x) 24) (.cells (pw y) 24) (.cells #[.int .u64 0, .int .u64 0, .int .u64 0, .int .u64 0] 24) (.cells #[.int .u64 0, .int .u64 0, .int .u64 0, .int .u64 0] 24)
  have A0 : Hid (Rws [(w.heap.size, pw x), (w.heap.size + 1, pw y), (w.heap.size + 1 + 1, #[.int .u64 0, .int .u64 0, .int .u64 0, .int .u64 0]), (w.heap.size + 1 + 1 + 1, #[.int .u64 0, .int .u64 0, .int .u64 0, .int .u64 0])] ((((w.alloc (.cells (pw x) 24)).alloc (.cells (pw y) 24)).alloc (.cells #[.int .u64 0, .int .u64 0, .int .u64 0, .int .u64 0] 24)).alloc (.cells #[.int .u64 0, .int .u64 0, .int .u64 0, .int .u64 0] 24))) := Lib.hid (by
    intro p hp
    simp only [List.mem_cons, List.not_mem_nil, or_false] at hp
    rcases hp with rfl | rfl | rfl | rfl
    · exact h4.1
    · exact h4.2.1
    · exact h4.2.2.1
    · exact h4.2.2.2)
  clear h4
  have B0 : Hid (Below w.heap.size w ((((w.alloc (.cells (pw x) 24)).alloc (.cells (pw y) 24)).alloc (.cells #[.int .u64 0, .int .u64 0, .int .u64 0, .int .u64 0] 24)).alloc (.cells #[.int .u64 0, .int .u64 0, .int .u64 0, .int .u64 0] 24))) := Lib.hid (by go_grown)
  go_enter Tryd.func24, Tryd.ntmps24
  go_wp2_with (refine wpList_load_row rfl 24 _ rfl (w.heap.size) rfl 24 (pw x) (0, 0) _ (A0.out.is (w.heap.size) (pw x) (by simp)) Tryd.underlying24 rfl infoWord ?_)
  refine (HSX.out _).mono ?_
  rintro e w1 ⟨rfl, hb⟩
  have A1 := Lib.hid (A0.out.below hb)
  have B1 := Lib.hid (B0.out.trans (hb.mono (by simp; omega)))
  have hl1 := A1.out.lt (w.heap.size + 1 + 1 + 1) #[.int .u64 0, .int .u64 0, .int .u64 0, .int .u64 0] (by simp)
  clear hb
  have A2 := Lib.hid (A1.out.new #[.int .u64 0, .int .u64 0, .int .u64 0, .int .u64 0])
  have A3 := Lib.hid (A2.out.row w1.heap.size #[.int .u64 0, .int .u64 0, .int .u64 0, .int .u64 0] (pw X) [(w.heap.size, pw x), (w.heap.size + 1, pw y), (w.heap.size + 1 + 1, #[.int .u64 0, .int .u64 0, .int .u64 0, .int .u64 0]), (w.heap.size + 1 + 1 + 1, #[.int .u64 0, .int .u64 0, .int .u64 0, .int .u64 0])] (by simp) (by simp; omega))
  go_wp2_with (first | (refine wpList_store_row rfl 24 _ _ rfl (w1.heap.size) (pw X) rfl rfl 24 (#[.int .u64 0, .int .u64 0, .int .u64 0, .int .u64 0]) (A2.out.is (w1.heap.size) (#[.int .u64 0, .int .u64 0, .int .u64 0, .int .u64 0]) (by simp)) infoWord rfl (pw_one _) ?_) | (refine wpList_load_row rfl 24 _ rfl (w.heap.size + 1) rfl 24 (pw y) (0, 0) _ (A3.out.is (w.heap.size + 1) (pw y) (by simp)) Tryd.underlying24 rfl infoWord ?_))
  refine (HSY.out _).mono ?_
  rintro e w2 ⟨rfl, hb⟩
  have hz2 : w1.heap.size < w2.heap.size := by have := hb.size; simp at this; omega
  have A4 := Lib.hid (A3.out.below hb)
  have B2 := Lib.hid (B1.out.trans ((below_setRow ((Below.refl w1.heap.size w1).alloc (Nat.le_refl _) (.cells #[.int .u64 0, .int .u64 0, .int .u64 0, .int .u64 0] 24)) (Nat.le_refl _) (pw X)).mono (by omega) |>.trans (hb.mono (by simp; omega))))
  clear hb
  have A5 := Lib.hid (A4.out.new #[.int .u64 0, .int .u64 0, .int .u64 0, .int .u64 0])
  have A6 := Lib.hid (A5.out.row w2.heap.size #[.int .u64 0, .int .u64 0, .int .u64 0, .int .u64 0] (pw Y) [(w1.heap.size, pw X), (w.heap.size, pw x), (w.heap.size + 1, pw y), (w.heap.size + 1 + 1, #[.int .u64 0, .int .u64 0, .int .u64 0, .int .u64 0]), (w.heap.size + 1 + 1 + 1, #[.int .u64 0, .int .u64 0, .int .u64 0, .int .u64 0])] (by simp) (by simp; omega))
  go_wp2_with (first | (refine wpList_store_row rfl 24 _ _ rfl (w2.heap.size) (pw Y) rfl rfl 24 (#[.int .u64 0, .int .u64 0, .int .u64 0, .int .u64 0]) (A5.out.is (w2.heap.size) (#[.int .u64 0, .int .u64 0, .int .u64 0, .int .u64 0]) (by simp)) infoWord rfl (pw_one _) ?_) | (refine wpList_load_row rfl 24 _ rfl (w1.heap.size) rfl 24 (pw X) (0, 0) _ (A6.out.is (w1.heap.size) (pw X) (by simp)) Tryd.underlying24 rfl infoWord ?_) | (refine wpList_load_row rfl 24 _ rfl (w2.heap.size) rfl 24 (pw Y) (0, 0) _ (A6.out.is (w2.heap.size) (pw Y) (by simp)) Tryd.underlying24 rfl infoWord ?_))
  refine (HD.out _).mono ?_
  rintro e w3 ⟨rfl, hb⟩
  have hz3 : w2.heap.size < w3.heap.size := by have := hb.size; simp at this; omega
  have A7 := Lib.hid (A6.out.below hb)
  have B3 := Lib.hid (B2.out.trans ((below_setRow ((Below.refl w2.heap.size w2).alloc (Nat.le_refl _) (.cells #[.int .u64 0, .int .u64 0, .int .u64 0, .int .u64 0] 24)) (Nat.le_refl _) (pw Y)).mono (by omega) |>.trans (hb.mono (by simp; omega))))
  clear hb
  have A8 := Lib.hid ((A7.out.new #[.int .u64 0, .int .u64 0, .int .u64 0, .int .u64 0]).new #[.int .u64 0, .int .u64 0, .int .u64 0, .int .u64 0])
  have hsz : (w3.alloc (.cells #[.int .u64 0, .int .u64 0, .int .u64 0, .int .u64 0] 24)).heap.size = w3.heap.size + 1 := by simp
  have A8' : Hid (Rws [(w3.heap.size + 1, #[.int .u64 0, .int .u64 0, .int .u64 0, .int .u64 0]), (w3.heap.size, #[.int .u64 0, .int .u64 0, .int .u64 0, .int .u64 0]), (w.heap.size, pw x), (w.heap.size + 1, pw y), (w.heap.size + 1 + 1, #[.int .u64 0, .int .u64 0, .int .u64 0, .int .u64 0]), (w.heap.size + 1 + 1 + 1, #[.int .u64 0, .int .u64 0, .int .u64 0, .int .u64 0])] ((w3.alloc (.cells #[.int .u64 0, .int .u64 0, .int .u64 0, .int .u64 0] 24)).alloc (.cells #[.int .u64 0, .int .u64 0, .int .u64 0, .int .u64 0] 24))) := Lib.hid (fun p hp => A8.out p (by rw [hsz]; simp at hp ⊢; rcases hp with h | h | h | h | h | h <;> simp [h]))
  clear A8
  have A9 := Lib.hid (A8'.out.row w3.heap.size #[.int .u64 0, .int .u64 0, .int .u64 0, .int .u64 0] (pw q) [(w3.heap.size + 1, #[.int .u64 0, .int .u64 0, .int .u64 0, .int .u64 0]), (w.heap.size, pw x), (w.heap.size + 1, pw y), (w.heap.size + 1 + 1, #[.int .u64 0, .int .u64 0, .int .u64 0, .int .u64 0]), (w.heap.size + 1 + 1 + 1, #[.int .u64 0, .int .u64 0, .int .u64 0, .int .u64 0])] (by simp) (by simp; omega))
  have A10 := Lib.hid (A9.out.row (w3.heap.size + 1) #[.int .u64 0, .int .u64 0, .int .u64 0, .int .u64 0] (pw r) [(w3.heap.size, pw q), (w.heap.size, pw x), (w.heap.size + 1, pw y), (w.heap.size + 1 + 1, #[.int .u64 0, .int .u64 0, .int .u64 0, .int .u64 0]), (w.heap.size + 1 + 1 + 1, #[.int .u64 0, .int .u64 0, .int .u64 0, .int .u64 0])] (by simp) (by simp; omega))
  have B4 : Hid (Below w.heap.size w ((((w3.alloc (.cells #[.int .u64 0, .int .u64 0, .int .u64 0, .int .u64 0] 24)).alloc (.cells #[.int .u64 0, .int .u64 0, .int .u64 0, .int .u64 0] 24)).setRow w3.heap.size (pw q)).setRow (w3.heap.size + 1) (pw r))) := Lib.hid (below_setRow (below_setRow (B3.out.trans (Below.mono (B := w3.heap.size) (by go_grown) (by omega))) (by omega) _) (by omega) _)
  go_wp2_with (first | (refine wpList_store_row rfl 24 _ _ rfl (w3.heap.size) (pw q) rfl rfl 24 (#[.int .u64 0, .int .u64 0, .int .u64 0, .int .u64 0]) (A8'.out.is (w3.heap.size) (#[.int .u64 0, .int .u64 0, .int .u64 0, .int .u64 0]) (by simp)) infoWord rfl (pw_one _) ?_) | (refine wpList_store_row rfl 24 _ _ rfl (w3.heap.size + 1) (pw r) rfl rfl 24 (#[.int .u64 0, .int .u64 0, .int .u64 0, .int .u64 0]) (A9.out.is (w3.heap.size + 1) (#[.int .u64 0, .int .u64 0, .int .u64 0, .int .u64 0]) (by simp)) infoWord rfl (pw_one _) ?_))
  refine region_tie (CX w w3.heap.size (w3.heap.size + 1) (pw q) (pw r)) (fun i s wx => match i with | 0 => s 36 = wv (q) | 1 => s 37 = wv (r) | 2 => wx.heap[w.heap.size + 1 + 1]? = some (.cells (pw q) 24 (0, 0)) | 3 => wx.heap[w.heap.size + 1 + 1 + 1]? = some (.cells (pw r) 24 (0, 0)) | _ => True) (RX (w.heap.size + 1 + 1) (w.heap.size + 1 + 1 + 1) (pw q) (pw r)) (fun i => match i with | 0 => [36] | 1 => [37] | _ => []) (fun i => i) (by kernel_rfl) (by kernel_rfl) ⟨B4.out.drew, A10.out.is (w3.heap.size) (pw q) (by simp), A10.out.is (w3.heap.size + 1) (pw r) (by simp), ⟨#[.int .u64 0, .int .u64 0, .int .u64 0, .int .u64 0], rfl, A10.out.is (w.heap.size + 1 + 1) #[.int .u64 0, .int .u64 0, .int .u64 0, .int .u64 0] (by simp)⟩, ⟨#[.int .u64 0, .int .u64 0, .int .u64 0, .int .u64 0], rfl, A10.out.is (w.heap.size + 1 + 1 + 1) #[.int .u64 0, .int .u64 0, .int .u64 0, .int .u64 0] (by simp)⟩, by omega, by omega⟩ ?_ ?_ ?_ ?_
  · intro i s s' wx he hp
    match i, he, hp with
    | 0, he, hp => exact (he 36 (by simp)).symm.trans hp
    | 1, he, hp => exact (he 37 (by simp)).symm.trans hp
    | 2, _, hp => exact hp
    | 3, _, hp => exact hp
    | _ + 4, _, _ => trivial
  · intro i s wa wb hR hp
    match i, hp with
    | 0, hp => exact hp
    | 1, hp => exact hp
    | 2, hp => exact hR.2.1 hp
    | 3, hp => exact hR.2.2 hp
    | _ + 4, _ => trivial
  · refine ⟨?_, ?_, ?_, ?_, trivial⟩
    · intro a wx hC hsz hK
      exact tt_load 24 (.tmp 10) (.pointer (some ⟨w3.heap.size, 0, none⟩)) (wv (q)) rfl (by kernel_rfl) (hK.1 10 (by kernel_rfl)) (load_pw hC.rc) hC (slots_put _ _ _ (by rw [hsz]; exact of_decide_eq_true (by kernel_rfl))) ⟨Nat.le_refl _, id, id⟩
    · intro a wx hC hsz hK
      exact tt_load 24 (.tmp 11) (.pointer (some ⟨w3.heap.size + 1, 0, none⟩)) (wv (r)) rfl (by kernel_rfl) (hK.1 11 (by kernel_rfl)) (load_pw hC.rd) hC (slots_put _ _ _ (by rw [hsz]; exact of_decide_eq_true (by kernel_rfl))) ⟨Nat.le_refl _, id, id⟩
    · intro a wx hC hsz hK
      have h0 : a.tmps.getD 36 undef = wv (q) := hK.2 ⟨0, .data⟩ (by simp) rfl _ rfl
      obtain ⟨cs, hcs, e0⟩ := hC.ra
      exact tt_store (by kernel_rfl) rfl (run_store 24 (.tmp 4) (.tmp 36) _ _ rfl (hK.1 4 (by kernel_rfl)) h0 (store_pw hcs e0)) (hC.ra' _ rfl) (setRow_heap _ _ _ _ _ _ e0) ⟨by simp, fun _ => setRow_heap _ _ _ _ _ _ e0, fun h => (setRow_other _ _ _ _ (by omega)).trans h⟩
    · intro a wx hC hsz hK
      have h0 : a.tmps.getD 37 undef = wv (r) := hK.2 ⟨1, .data⟩ (by simp) rfl _ rfl
      obtain ⟨cs, hcs, e0⟩ := hC.rb
      exact tt_store (by kernel_rfl) rfl (run_store 24 (.tmp 5) (.tmp 37) _ _ rfl (hK.1 5 (by kernel_rfl)) h0 (store_pw hcs e0)) (hC.rb' _ rfl) (setRow_heap _ _ _ _ _ _ e0) ⟨by simp, fun h => (setRow_other _ _ _ _ (by omega)).trans h, fun _ => setRow_heap _ _ _ _ _ _ e0⟩
  · intro f wx hC hf
    have e2 : wx.heap[w.heap.size + 1 + 1]? = some (.cells (pw q) 24 (0, 0)) := hf 2 _ rfl
    have e3 : wx.heap[w.heap.size + 1 + 1 + 1]? = some (.cells (pw r) 24 (0, 0)) := hf 3 _ rfl
    have hB := hC.old
    clear hf hC
    generalize hA : putAll _ _ _ = A
    have h4 : A.tmps.getD 4 undef = Value.pointer (some ⟨w.heap.size + 1 + 1, 0, none⟩) := by subst hA; kernel_rfl
    have h5 : A.tmps.getD 5 undef = Value.pointer (some ⟨w.heap.size + 1 + 1 + 1, 0, none⟩) := by subst hA; kernel_rfl
    have hd : A.defers = [] := by subst hA; kernel_rfl
    clear hA
    go_wp2
    (try simp only [Exit.inBlock, Exit.then])
    exact bodyPost_ret (v := .tuple #[.agg (pw q), .agg (pw r)]) (results_two (p := 4) (q := 5) rfl _ _ (w.heap.size + 1 + 1) (w.heap.size + 1 + 1 + 1) _ _ (0, 0) h4 h5 e2 e3 infoWord infoWord) hd ⟨rfl, hB⟩

-- WHAT bailiwickref01.SDivMod COMES TO.
theorem sdivmod_ref (x y : Nat) (w : World) : Calls Tryd.prog 24 #[wv x, wv y] w fun e w' => e = .returned (.tuple #[wv (sgV (ngV x != ngV y) (quoV (szV x % 115792089237316195423570985008687907853269984665640564039457584007913129639936) (szV y))), wv (sgV (ngV x) (remV (szV x % 115792089237316195423570985008687907853269984665640564039457584007913129639936) (szV y)))]) ∧ Below w.heap.size w w' := by
  have hs : ∀ x w, Calls Tryd.prog 73 #[.agg (pw x)] w fun e w' => e = .returned (.tuple #[.bool (ngV x), .agg (pw (szV x))]) ∧ Below w.heap.size w w' := fun x w => by
    have h := signed_ref x w
    have e : (if negB x then 115792089237316195423570985008687907853269984665640564039457584007913129639936 - x % 115792089237316195423570985008687907853269984665640564039457584007913129639936 else x) = szV x := by
      unfold szV sgV
      have : negB x = ngV x := rfl
      rw [this]
      cases ngV x <;> simp
    rw [e] at h
    exact h
  have hx := hs x
  have hy := hs y
  have hd := fun w => divmod_ref (szV x) (szV y) w
  generalize quoV (szV x % 115792089237316195423570985008687907853269984665640564039457584007913129639936) (szV y) = q at *
  generalize remV (szV x % 115792089237316195423570985008687907853269984665640564039457584007913129639936) (szV y) = r at *
  have hq := fun w => neg_ref q w
  have hr := fun w => neg_ref r w
  rw [wv_pw x, wv_pw y]
  generalize ngV x = m at *
  generalize ngV y = n at *
  cases m <;> cases n
  · exact sdm_false_false x y _ _ q r _ _ w hx hy hd hq hr
  · exact sdm_false_true x y _ _ q r _ _ w hx hy hd hq hr
  · exact sdm_true_false x y _ _ q r _ _ w hx hy hd hq hr
  · exact sdm_true_true x y _ _ q r _ _ w hx hy hd hq hr
end Go.Proofs.YthfadinocadhaaaDoor

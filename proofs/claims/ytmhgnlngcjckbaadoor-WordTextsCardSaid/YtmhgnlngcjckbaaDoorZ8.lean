/- bailiwicklaw01.WordTexts: the statement about it, and its card: whatever the word, the bytes and the string: true; the input reads as it did. CONDITIONS: the row's own: its three listed tables of the library read, when the call begins, as the program's text lays them; the card ties them to that text. (With it, merged: RDM · RDecimal · RRow · RBytes · WTexts · WordTexts.) -/
import Derived.Test.YtmhgnlngcjckbaaDoorZ6
import Derived.BigRegion
import Derived.Test.YtmhgnlngcjckbaaDoorZ3
import Derived.Test.YtmhgnlngcjckbaaDoorZ7
import Derived.Test.YtmhgnlngcjckbaaDoorZ1
import Derived.ChangeSlices
import Derived.ChangeMaps5
import Derived.SizedLaws
import Derived.Stop.LaidErr
namespace Go.Proofs.YtmhgnlngcjckbaaDoor
open Go.RowKit

theorem results_two {fn : Func} {p q : Tmp} (h : fn.results = #[.cell p 24, .cell q 24]) (tmps : Array Value) (w : World) (g k : Nat) (cs ds : Array Value) (fr : Nat × Nat)
    (hp : tmps.getD p undef = .pointer (some ⟨g, 0, none⟩)) (hq : tmps.getD q undef = .pointer (some ⟨k, 0, none⟩)) (hg : w.heap[g]? = some (.cells cs 24 fr)) (hk : w.heap[k]? = some (.cells ds 24 fr))
    (hi : (Tryd.prog.info? 24).map (·.size) = some cs.size) (hj : (Tryd.prog.info? 24).map (·.size) = some ds.size) :
    (results fn tmps).run Tryd.prog w = .ok (.tuple #[.agg cs, .agg ds]) w := by
  have hp' : tmps[p]?.getD undef = .pointer (some ⟨g, 0, none⟩) := by simpa using hp
  have hq' : tmps[q]?.getD undef = .pointer (some ⟨k, 0, none⟩) := by simpa using hq
  simp [results, h, hp', hq', asAddr, run_loadVar_row w g 24 24 cs fr _ hg Tryd.underlying24 rfl hi, run_loadVar_row w k 24 24 ds fr _ hk Tryd.underlying24 rfl hj]

structure CD (w : World) (x y : Nat) (wx : World) : Prop where
  old : Below w.heap.size w wx
  r0 : wx.heap[w.heap.size]? = some (.cells (pw x) 24 (0, 0))
  r1 : wx.heap[w.heap.size + 1]? = some (.cells (pw y) 24 (0, 0))
  r2 : wx.heap[w.heap.size + 1 + 1]? = some (.cells #[.int .u64 0, .int .u64 0, .int .u64 0, .int .u64 0] 24 (0, 0))
  r3 : wx.heap[w.heap.size + 1 + 1 + 1]? = some (.cells #[.int .u64 0, .int .u64 0, .int .u64 0, .int .u64 0] 24 (0, 0))
theorem CD.below {w wx w' : World} {x y : Nat} (h : CD w x y wx) (hb : Below wx.heap.size wx w') : CD w x y w' :=
  ⟨h.old.trans (hb.mono h.old.size), (hb.block _ (Array.getElem?_eq_some_iff.1 h.r0).1).trans h.r0, (hb.block _ (Array.getElem?_eq_some_iff.1 h.r1).1).trans h.r1, (hb.block _ (Array.getElem?_eq_some_iff.1 h.r2).1).trans h.r2, (hb.block _ (Array.getElem?_eq_some_iff.1 h.r3).1).trans h.r3⟩
theorem heap4 (w : World) (A B C D : Obj) : ((((w.alloc A).alloc B).alloc C).alloc D).heap[w.heap.size]? = some A ∧ ((((w.alloc A).alloc B).alloc C).alloc D).heap[w.heap.size + 1]? = some B ∧ ((((w.alloc A).alloc B).alloc C).alloc D).heap[w.heap.size + 1 + 1]? = some C ∧ ((((w.alloc A).alloc B).alloc C).alloc D).heap[w.heap.size + 1 + 1 + 1]? = some D := by
  obtain ⟨h1, h2, h3⟩ := heap3 w A B C
  exact ⟨(heap_alloc_old _ _ (by first | (simp; done) | (simp; omega))).trans h1, (heap_alloc_old _ _ (by first | (simp; done) | (simp; omega))).trans h2, (heap_alloc_old _ _ (by first | (simp; done) | (simp; omega))).trans h3, by have := heap_alloc_new (((w.alloc A).alloc B).alloc C) D; simpa using this⟩

set_option maxRecDepth 100000 in
set_option maxHeartbeats 4000000 in
theorem divmod_in (x y : Nat) (hy : ¬ y % 115792089237316195423570985008687907853269984665640564039457584007913129639936 = 0) (w : World) : Calls Tryd.prog 23 #[.agg (pw x), .agg (pw y)] w fun e w' => e = .returned (.tuple #[.agg (pw ((x % 115792089237316195423570985008687907853269984665640564039457584007913129639936) / (y % 115792089237316195423570985008687907853269984665640564039457584007913129639936))), .agg (pw ((x % 115792089237316195423570985008687907853269984665640564039457584007913129639936) % (y % 115792089237316195423570985008687907853269984665640564039457584007913129639936)))]) ∧ Below w.heap.size w w' := by
  have hzf := eqz_run y false (decide_eq_false hy)
  have hzg := eqz_guard y
  have HY := Lib.hid (Nat.pos_of_ne_zero hy); clear hy
  have hC0 : CD w x y ((((w.alloc (.cells (pw x) 24)).alloc (.cells (pw y) 24)).alloc (.cells #[.int .u64 0, .int .u64 0, .int .u64 0, .int .u64 0] 24)).alloc (.cells #[.int .u64 0, .int .u64 0, .int .u64 0, .int .u64 0] 24)) := ⟨by go_grown, (heap4 _ _ _ _ _).1, (heap4 _ _ _ _ _).2.1, (heap4 _ _ _ _ _).2.2.1, (heap4 _ _ _ _ _).2.2.2⟩
  have HC0 := Lib.hid hC0; clear hC0
  go_enter Tryd.func23, Tryd.ntmps23
  go_wp2_with (refine wpList_load_row rfl 24 _ rfl (w.heap.size + 1) rfl 24 (pw y) (0, 0) _ HC0.out.r1 Tryd.underlying24 rfl infoWord ?_)
  refine region_tie (CD w x y) (fun i s wx => match i with | 0 => s 14 = wv x | 1 => DS 16 (x % 115792089237316195423570985008687907853269984665640564039457584007913129639936) (s 15) wx | 2 => s 16 = wv y | 3 => DS 16 (y % 115792089237316195423570985008687907853269984665640564039457584007913129639936) (s 17) wx | 4 => DQ 16 16 (x % 115792089237316195423570985008687907853269984665640564039457584007913129639936) (y % 115792089237316195423570985008687907853269984665640564039457584007913129639936) (s 18) wx | 5 => DQ 16 16 (x % 115792089237316195423570985008687907853269984665640564039457584007913129639936) (y % 115792089237316195423570985008687907853269984665640564039457584007913129639936) (s 13) wx | 6 => DS 16 ((x % 115792089237316195423570985008687907853269984665640564039457584007913129639936) / (y % 115792089237316195423570985008687907853269984665640564039457584007913129639936)) (s 19) wx | 7 => DR 16 ((x % 115792089237316195423570985008687907853269984665640564039457584007913129639936) % (y % 115792089237316195423570985008687907853269984665640564039457584007913129639936)) (s 20) wx | 8 => DS 16 ((x % 115792089237316195423570985008687907853269984665640564039457584007913129639936) / (y % 115792089237316195423570985008687907853269984665640564039457584007913129639936)) (s 6) wx | 9 => DR 16 ((x % 115792089237316195423570985008687907853269984665640564039457584007913129639936) % (y % 115792089237316195423570985008687907853269984665640564039457584007913129639936)) (s 7) wx | _ => True) RN (fun i => match i with | 0 => [14] | 1 => [15] | 2 => [16] | 3 => [17] | 4 => [18] | 5 => [13] | 6 => [19] | 7 => [20] | 8 => [6] | 9 => [7] | _ => []) (fun i => i) (by kernel_rfl) (by kernel_rfl) (⟨HC0.out.old.drew, HC0.out.r0, HC0.out.r1, HC0.out.r2, HC0.out.r3⟩) ?_ ?_ ?_ ?_
  · intro i s s' wx he hp
    match i, he, hp with
    | 0, he, hp => have h := he 14 (by simp); (first | exact h ▸ hp | (rw [h] at hp; exact hp))
    | 1, he, hp => have h := he 15 (by simp); (first | exact h ▸ hp | (rw [h] at hp; exact hp))
    | 2, he, hp => have h := he 16 (by simp); (first | exact h ▸ hp | (rw [h] at hp; exact hp))
    | 3, he, hp => have h := he 17 (by simp); (first | exact h ▸ hp | (rw [h] at hp; exact hp))
    | 4, he, hp => have h := he 18 (by simp); (first | exact h ▸ hp | (rw [h] at hp; exact hp))
    | 5, he, hp => have h := he 13 (by simp); (first | exact h ▸ hp | (rw [h] at hp; exact hp))
    | 6, he, hp => have h := he 19 (by simp); (first | exact h ▸ hp | (rw [h] at hp; exact hp))
    | 7, he, hp => have h := he 20 (by simp); (first | exact h ▸ hp | (rw [h] at hp; exact hp))
    | 8, he, hp => have h := he 6 (by simp); (first | exact h ▸ hp | (rw [h] at hp; exact hp))
    | 9, he, hp => have h := he 7 (by simp); (first | exact h ▸ hp | (rw [h] at hp; exact hp))
    | _ + 10, _, _ => trivial
  · intro i s wa wb hR hp
    match i, hp with
    | 0, hp => exact hp
    | 1, hp => exact hp.keep hR
    | 2, hp => exact hp
    | 3, hp => exact hp.keep hR
    | 4, hp => exact hp.keep hR
    | 5, hp => exact hp.keep hR
    | 6, hp => exact hp.keep hR
    | 7, hp => exact hp.keep hR
    | 8, hp => exact hp.keep hR
    | 9, hp => exact hp.keep hR
    | _ + 10, _ => trivial
  · refine ⟨?_, ?_, ?_, ?_, ?_, ?_, ?_, ?_, ?_, ?_, trivial⟩
    · intro a wx hC hsz hK
      have h0 : a.tmps.getD 2 undef = .pointer (some ⟨w.heap.size, 0, none⟩) := hK.1 2 (by kernel_rfl)
      exact tt_load 24 (.tmp 2) (.pointer (some ⟨w.heap.size, 0, none⟩)) (wv x) rfl (by kernel_rfl) h0 (load_pw hC.r0) hC (slots_put _ _ _ (by rw [hsz]; exact of_decide_eq_true (by kernel_rfl))) (RN.refl _)
    · intro a wx hC hsz hK
      have h0 := hK.2 ⟨0, .data⟩ (by simp) rfl _ rfl
      refine tt_call 15 #[a.tmps.getD 14 undef] (by kernel_rfl) (by kernel_rfl) ?_
      rw [show a.tmps.getD 14 undef = _ from h0]
      refine Calls.mono (digits_ds x wx) ?_
      rintro e w' ⟨v, rfl, hb, hv⟩
      exact ⟨v, rfl, hC.below hb, by rw [slots_put _ _ _ (by rw [hsz]; exact of_decide_eq_true (by kernel_rfl))]; exact hv, RN.of hb⟩
    · intro a wx hC hsz hK
      have h0 : a.tmps.getD 3 undef = .pointer (some ⟨w.heap.size + 1, 0, none⟩) := hK.1 3 (by kernel_rfl)
      exact tt_load 24 (.tmp 3) (.pointer (some ⟨w.heap.size + 1, 0, none⟩)) (wv y) rfl (by kernel_rfl) h0 (load_pw hC.r1) hC (slots_put _ _ _ (by rw [hsz]; exact of_decide_eq_true (by kernel_rfl))) (RN.refl _)
    · intro a wx hC hsz hK
      have h0 := hK.2 ⟨2, .data⟩ (by simp) rfl _ rfl
      refine tt_call 15 #[a.tmps.getD 16 undef] (by kernel_rfl) (by kernel_rfl) ?_
      rw [show a.tmps.getD 16 undef = _ from h0]
      refine Calls.mono (digits_ds y wx) ?_
      rintro e w' ⟨v, rfl, hb, hv⟩
      exact ⟨v, rfl, hC.below hb, by rw [slots_put _ _ _ (by rw [hsz]; exact of_decide_eq_true (by kernel_rfl))]; exact hv, RN.of hb⟩
    · intro a wx hC hsz hK
      have h0 := hK.2 ⟨1, .data⟩ (by simp) rfl _ rfl
      have h1 := hK.2 ⟨3, .data⟩ (by simp) rfl _ rfl
      refine tt_call 44 #[a.tmps.getD 15 undef, a.tmps.getD 17 undef] (by kernel_rfl) (by kernel_rfl) ?_
      refine Calls.mono (divide_ds (by omega) (by omega) HY.out h0 h1) ?_
      rintro e w' ⟨v, rfl, hb, hv⟩
      exact ⟨v, rfl, hC.below hb, by rw [slots_put _ _ _ (by rw [hsz]; exact of_decide_eq_true (by kernel_rfl))]; exact hv, RN.of hb⟩
    · intro a wx hC hsz hK
      have h0 := hK.2 ⟨4, .data⟩ (by simp) rfl _ rfl
      exact tt_val (a.tmps.getD 18 undef) (by kernel_rfl) (by kernel_rfl) hC (by rw [slots_put _ _ _ (by rw [hsz]; exact of_decide_eq_true (by kernel_rfl))]; exact h0) (RN.refl _)
    · intro a wx hC hsz hK
      have h0 := hK.2 ⟨5, .data⟩ (by simp) rfl _ rfl
      obtain ⟨qv, rv, ev, hq, hr⟩ := h0
      have ev' : a.tmps.getD 13 undef = .tuple #[qv, rv] := ev
      refine tt_v (Instr.extract (a.tmps.getD 13 undef) 0) qv (by kernel_rfl) rfl ?_ hC (by rw [slots_put _ _ _ (by rw [hsz]; exact of_decide_eq_true (by kernel_rfl))]; exact hq) (RN.refl _)
      rw [ev']; kernel_rfl
    · intro a wx hC hsz hK
      have h0 := hK.2 ⟨5, .data⟩ (by simp) rfl _ rfl
      obtain ⟨qv, rv, ev, hq, hr⟩ := h0
      have ev' : a.tmps.getD 13 undef = .tuple #[qv, rv] := ev
      refine tt_v (Instr.extract (a.tmps.getD 13 undef) 1) rv (by kernel_rfl) rfl ?_ hC (by rw [slots_put _ _ _ (by rw [hsz]; exact of_decide_eq_true (by kernel_rfl))]; exact hr) (RN.refl _)
      rw [ev']; kernel_rfl
    · intro a wx hC hsz hK
      have h0 := hK.2 ⟨6, .data⟩ (by simp) rfl _ rfl
      exact tt_val (a.tmps.getD 19 undef) (by kernel_rfl) (by kernel_rfl) hC (by rw [slots_put _ _ _ (by rw [hsz]; exact of_decide_eq_true (by kernel_rfl))]; exact h0) (RN.refl _)
    · intro a wx hC hsz hK
      have h0 := hK.2 ⟨7, .data⟩ (by simp) rfl _ rfl
      exact tt_val (a.tmps.getD 20 undef) (by kernel_rfl) (by kernel_rfl) hC (by rw [slots_put _ _ _ (by rw [hsz]; exact of_decide_eq_true (by kernel_rfl))]; exact h0) (RN.refl _)
  · intro f wx hC hf
    have s14 := hf 0 _ rfl
    obtain ⟨b15, c15, d15, s15, g15, l15, v15⟩ := hf 1 _ rfl
    have s16 := hf 2 _ rfl
    obtain ⟨b17, c17, d17, s17, g17, l17, v17⟩ := hf 3 _ rfl
    obtain ⟨q18, r18, s18, -, -⟩ := hf 4 _ rfl
    obtain ⟨q13, r13, s13, -, -⟩ := hf 5 _ rfl
    obtain ⟨b19, c19, d19, s19, g19, l19, v19⟩ := hf 6 _ rfl
    obtain ⟨n20, m20, b20, c20, d20, s20, g20, l20, v20⟩ := hf 7 _ rfl
    obtain ⟨b6, c6, d6, s6, g6, l6, v6⟩ := hf 8 _ rfl
    obtain ⟨n7, m7, b7, c7, d7, s7, g7, l7, v7⟩ := hf 9 _ rfl
    clear hf
    generalize hA : putAll _ _ _ = A at *
    have hsz : A.tmps.size = 25 := by rw [← hA, putAll_size]; rfl
    have t0 : A.tmps.getD 0 undef = .agg (pw x) := by subst hA; kernel_rfl
    have t1 : A.tmps.getD 1 undef = .agg (pw y) := by subst hA; kernel_rfl
    have t2 : A.tmps.getD 2 undef = .pointer (some ⟨w.heap.size, 0, none⟩) := by subst hA; kernel_rfl
    have t3 : A.tmps.getD 3 undef = .pointer (some ⟨w.heap.size + 1, 0, none⟩) := by subst hA; kernel_rfl
    have t4 : A.tmps.getD 4 undef = .pointer (some ⟨w.heap.size + 1 + 1, 0, none⟩) := by subst hA; kernel_rfl
    have t5 : A.tmps.getD 5 undef = .pointer (some ⟨w.heap.size + 1 + 1 + 1, 0, none⟩) := by subst hA; kernel_rfl
    have t8 : A.tmps.getD 8 undef = .agg (pw y) := by subst hA; kernel_rfl
    have t9 : A.tmps.getD 9 undef = .agg #[.int .u64 0, .int .u64 0, .int .u64 0, .int .u64 0] := by subst hA; kernel_rfl
    have t10 : A.tmps.getD 10 undef = .bool false := by subst hA; kernel_rfl
    have t11 : A.tmps.getD 11 undef = undef := by subst hA; kernel_rfl
    have t12 : A.tmps.getD 12 undef = undef := by subst hA; kernel_rfl
    have t21 : A.tmps.getD 21 undef = undef := by subst hA; kernel_rfl
    have t22 : A.tmps.getD 22 undef = undef := by subst hA; kernel_rfl
    have t23 : A.tmps.getD 23 undef = undef := by subst hA; kernel_rfl
    have t24 : A.tmps.getD 24 undef = undef := by subst hA; kernel_rfl
    have hd : A.defers = [] := by subst hA; kernel_rfl
    clear hA
    obtain ⟨tm, df⟩ := A
    simp only [slots] at *
    have hL := arr_lit tm
    rw [hsz] at hL
    simp only [List.range, List.range.loop, List.map] at hL
    rw [t0, t1, t2, t3, t4, t5, s6, s7, t8, t9, t10, t11, t12, s13, s14, s15, s16, s17, s18, s19, s20, t21, t22, t23, t24] at hL
    subst hL hd
    clear t0 t1 t2 t3 t4 t5 s6 s7 t8 t9 t10 t11 t12 s13 s14 s15 s16 s17 s18 s19 s20 t21 t22 t23 t24 hsz
    have HC := Lib.hid hC; clear hC
    have G7 := Lib.hid g7; clear g7
    go_wp2_with fail
    refine (word_any b6 c6 16 d6 (by omega) l6 wx g6).mono ?_
    rintro e w1 ⟨rfl, hb1⟩
    rw [v6]
    have HC1 := Lib.hid (HC.out.below hb1)
    have G71 := Lib.hid (G7.out.below hb1)
    clear hb1
    go_wp2_with fail
    refine (word_any b7 c7 n7 d7 (by omega) l7 w1 G71.out).mono ?_
    rintro e w2 ⟨rfl, hb2⟩
    rw [v7]
    have HC2 := Lib.hid (HC1.out.below hb2)
    have R3 := Lib.hid ((setRow_other w2 (w.heap.size + 1 + 1) (w.heap.size + 1 + 1 + 1) (pw ((x % 115792089237316195423570985008687907853269984665640564039457584007913129639936) / (y % 115792089237316195423570985008687907853269984665640564039457584007913129639936))) (by omega)).trans HC2.out.r3)
    clear hb2
    go_wp2_with (first | (refine wpList_store_row rfl 24 _ _ rfl (w.heap.size + 1 + 1) (pw ((x % 115792089237316195423570985008687907853269984665640564039457584007913129639936) / (y % 115792089237316195423570985008687907853269984665640564039457584007913129639936))) rfl rfl 24 #[.int .u64 0, .int .u64 0, .int .u64 0, .int .u64 0] HC2.out.r2 infoWord rfl (pw_one _) ?_) | (refine wpList_store_row rfl 24 _ _ rfl (w.heap.size + 1 + 1 + 1) (pw ((x % 115792089237316195423570985008687907853269984665640564039457584007913129639936) % (y % 115792089237316195423570985008687907853269984665640564039457584007913129639936))) rfl rfl 24 #[.int .u64 0, .int .u64 0, .int .u64 0, .int .u64 0] R3.out infoWord rfl (pw_one _) ?_))
    (try simp only [Exit.inBlock, Exit.then])
    have e2 := (setRow_other (w2.setRow (w.heap.size + 1 + 1) (pw ((x % 115792089237316195423570985008687907853269984665640564039457584007913129639936) / (y % 115792089237316195423570985008687907853269984665640564039457584007913129639936)))) (w.heap.size + 1 + 1 + 1) (w.heap.size + 1 + 1) (pw ((x % 115792089237316195423570985008687907853269984665640564039457584007913129639936) % (y % 115792089237316195423570985008687907853269984665640564039457584007913129639936))) (by omega)).trans (setRow_heap _ _ _ _ _ _ HC2.out.r2)
    exact bodyPost_ret (v := .tuple #[.agg (pw ((x % 115792089237316195423570985008687907853269984665640564039457584007913129639936) / (y % 115792089237316195423570985008687907853269984665640564039457584007913129639936))), .agg (pw ((x % 115792089237316195423570985008687907853269984665640564039457584007913129639936) % (y % 115792089237316195423570985008687907853269984665640564039457584007913129639936)))]) (results_two (p := 4) (q := 5) rfl _ _ (w.heap.size + 1 + 1) (w.heap.size + 1 + 1 + 1) _ _ (0, 0) rfl rfl e2 (setRow_heap _ _ _ _ _ _ R3.out) infoWord infoWord) rfl ⟨rfl, below_setRow (below_setRow HC2.out.old (by omega) _) (by omega) _⟩

set_option maxRecDepth 100000 in
set_option maxHeartbeats 2000000 in
theorem divmod_nought (x : Nat) (w : World) : Calls Tryd.prog 23 #[.agg (pw x), .agg #[.int .u64 0, .int .u64 0, .int .u64 0, .int .u64 0]] w fun e w' => e = .returned (.tuple #[.agg #[.int .u64 0, .int .u64 0, .int .u64 0, .int .u64 0], .agg #[.int .u64 0, .int .u64 0, .int .u64 0, .int .u64 0]]) ∧ Below w.heap.size w w' := by
  have hzf : ∀ w, (binOp BinOp.eql 24 (.agg #[.int .u64 0, .int .u64 0, .int .u64 0, .int .u64 0]) (.agg #[.int .u64 0, .int .u64 0, .int .u64 0, .int .u64 0])).run Tryd.prog w = .ok (.bool true) w := fun w => eqz_run 0 true rfl w
  have hzg : ∀ (o1 o2 : Operand) w, (eqGuard BinOp.eql 24 o1 o2 (.agg #[.int .u64 0, .int .u64 0, .int .u64 0, .int .u64 0]) (.agg #[.int .u64 0, .int .u64 0, .int .u64 0, .int .u64 0])).run Tryd.prog w = .ok () w := fun o1 o2 w => eqz_guard 0 o1 o2 w
  go_enter Tryd.func23, Tryd.ntmps23
  go_wp2
  go_region
  all_goals (go_wp2; refine bodyPost_ret (v := .tuple #[.agg #[.int .u64 0, .int .u64 0, .int .u64 0, .int .u64 0], .agg #[.int .u64 0, .int .u64 0, .int .u64 0, .int .u64 0]]) (by simp [results, Tryd.results23, go_sem]; try rfl) rfl ⟨rfl, by go_grown⟩)

-- WHAT bailiwickref01.DivMod COMES TO.
theorem divmod_ref (x y : Nat) (w : World) : Calls Tryd.prog 23 #[wv x, wv y] w fun e w' => e = .returned (.tuple #[wv (quoV (x % 115792089237316195423570985008687907853269984665640564039457584007913129639936) y), wv (remV (x % 115792089237316195423570985008687907853269984665640564039457584007913129639936) y)]) ∧ Below w.heap.size w w' := by
  unfold quoV remV
  rw [wv_pw x, wv_pw y]
  by_cases h : y % 115792089237316195423570985008687907853269984665640564039457584007913129639936 = 0
  · rw [if_pos h, if_pos h, pw_nought h]
    exact divmod_nought x w
  · rw [if_neg h, if_neg h]
    exact divmod_in x y h w
end Go.Proofs.YtmhgnlngcjckbaaDoor
namespace Go.Proofs.YtmhgnlngcjckbaaDoor
open Go.RowKit

theorem quo_ten (X : Nat) : quoV X 10 = X / 10 ∧ remV X 10 = X % 10 := by
  unfold quoV remV
  constructor <;> rfl

set_option maxRecDepth 100000 in
set_option maxHeartbeats 4000000 in
theorem rdecimal_walk (x : Nat) (hx : x < 115792089237316195423570985008687907853269984665640564039457584007913129639936) (w : World) :
    Calls Tryd.prog 10 #[.agg (pw x)] w fun e w' => e = .returned (.string (decS x)) ∧ Below w.heap.size w w' := by
  have HX := Lib.hid hx; clear hx
  go_enter Tryd.func10, Tryd.ntmps10
  go_wp2_with fail
  go_loopw [3] (fun sv wr => ∃ (X : Nat) (s : List UInt8), sv = .string ⟨s.toArray⟩ ∧ Hid (DecR x X s w wr)) (fun sv _ => 200 - slenV sv)
  case atStart => exact ⟨x, [], rfl, Lib.hid ⟨by simp, heap_alloc_new _ _, by go_grown, HX.out, by simp⟩⟩
  case round =>
    obtain ⟨X, s, rfl, H⟩ := hrel
    have HD : Hid (∀ w, Calls Tryd.prog 23 #[.agg (pw X), .agg #[.int .u64 10, .int .u64 0, .int .u64 0, .int .u64 0]] w fun e w' => e = .returned (.tuple #[.agg (pw (X / 10)), .agg (pw (X % 10))]) ∧ Below w.heap.size w w') := Lib.hid (fun w => by
      have h := divmod_ref X 10 w
      rw [Nat.mod_eq_of_lt H.out.lt, (quo_ten X).1, (quo_ten X).2, wv_one (x := 10) (by omega)] at h
      exact h)
    have hr : X % 10 < 10 := Nat.mod_lt _ (by omega)
    obtain ⟨Q, hQ⟩ : ∃ Q, X / 10 = Q := ⟨_, rfl⟩
    obtain ⟨r, hR⟩ : ∃ r, X % 10 = r := ⟨_, rfl⟩
    rw [hQ, hR] at HD
    rw [hR] at hr
    have HQ := Lib.hid hQ; clear hQ
    have HRR := Lib.hid hR; clear hR
    have HLT := Lib.hid hr; clear hr
    go_wp2_with (refine wpList_load_row rfl 24 _ rfl w.heap.size rfl 24 _ (0, 0) _ H.out.row Tryd.underlying24 rfl infoWord ?_)
    refine (HD.out _).mono ?_
    rintro e w3 ⟨rfl, hb3⟩
    have H3 := Lib.hid hb3; clear hb3
    have e1 := (heap2 w3 (.cells #[.int .u64 0, .int .u64 0, .int .u64 0, .int .u64 0] 24) (.cells #[.int .u64 0, .int .u64 0, .int .u64 0, .int .u64 0] 24))
    have E1 := Lib.hid e1; clear e1
    go_upto_region 3 with (first | (refine wpList_store_row rfl 24 _ _ rfl w3.heap.size (pw Q) rfl rfl 24 #[.int .u64 0, .int .u64 0, .int .u64 0, .int .u64 0] E1.out.1 infoWord rfl (pw_one _) ?_) | (refine wpList_store_row rfl 24 _ _ rfl (w3.heap.size + 1) (pw r) rfl rfl 24 #[.int .u64 0, .int .u64 0, .int .u64 0, .int .u64 0] ((setRow_other _ _ _ _ (by omega)).trans E1.out.2) infoWord rfl (pw_one _) ?_))
    have hz3 : w.heap.size < wr.heap.size := (Array.getElem?_eq_some_iff.1 H.out.row).1
    have hz4 : wr.heap.size ≤ w3.heap.size := H3.out.size
    obtain ⟨w4, h4⟩ : ∃ w4, (((w3.alloc (.cells #[.int .u64 0, .int .u64 0, .int .u64 0, .int .u64 0] 24)).alloc (.cells #[.int .u64 0, .int .u64 0, .int .u64 0, .int .u64 0] 24)).setRow w3.heap.size (pw Q)).setRow (w3.heap.size + 1) (pw r) = w4 := ⟨_, rfl⟩
    rw [h4]
    have f1 : w4.heap[w3.heap.size]? = some (.cells (pw Q) 24 (0, 0)) := by rw [← h4, setRow_other _ _ _ _ (by omega)]; exact setRow_heap _ _ _ _ _ _ E1.out.1
    have f2 : w4.heap[w3.heap.size + 1]? = some (.cells (pw r) 24 (0, 0)) := by rw [← h4]; exact setRow_heap _ _ _ _ _ _ ((setRow_other _ _ _ _ (by omega)).trans E1.out.2)
    have b4 : Below wr.heap.size wr w4 := by rw [← h4]; exact below_setRow (below_setRow (((H3.out.alloc hz4 _).alloc (by simp; omega) _)) hz4 _) (by omega) _
    clear h4 E1
    have c0 : w4.cell? ⟨w3.heap.size + 1, 0, none⟩ = some (.int .u64 (r : Nat)) := by
      rw [cell_of_row _ _ 0 _ _ _ f2]
      unfold pw
      have := HLT.out
      rw [Nat.mod_eq_of_lt (by omega)]; rfl
    have B4 := Lib.hid b4; clear b4
    have F1 := Lib.hid f1; clear f1 f2
    have hw8 : IntKind.u8.wrap (r : Int) = (r : Int) := by rw [IntKind.wrap_u8]; have := HLT.out; omega
    have hr0 : (0 : Int) ≤ r := by omega
    have hr1 : (r : Int) < 10 := by have := HLT.out; omega
    have hcv : (convert 25 9 (.slice (some ⟨w4.heap.size, 0, none⟩) 1 1)).run Tryd.prog (w4.alloc (.cells #[.int .u8 (48 + (r : Int))] 5)) = .ok (.string ⟨#[UInt8.ofNat (48 + r)]⟩) (w4.alloc (.cells #[.int .u8 (48 + (r : Int))] 5)) := by
      have h := run_convert_bytes_back (P := Tryd.prog) (w4.alloc (.cells #[.int .u8 (48 + (r : Int))] 5)) 25 9 5 ⟨w4.heap.size, 0, none⟩ 1 [UInt8.ofNat (48 + r)] Tryd.underlying25 Tryd.underlying5 Tryd.underlying9 (fun j hj => by
        obtain rfl : j = 0 := by simpa using hj
        rw [Lib.add_plain, World.cell?_alloc_new]
        show some (Value.int .u8 (48 + (r : Int))) = some (Value.int .u8 (((UInt8.ofNat (48 + r)).toNat : Nat) : Int))
        rw [UInt8.toNat_ofNat', Nat.mod_eq_of_lt (by have := HLT.out; omega)]
        simp)
      exact h
    obtain ⟨bb, hbb⟩ : ∃ bb, UInt8.ofNat (48 + r) = bb := ⟨_, rfl⟩
    rw [hbb] at hcv
    have HBB := Lib.hid hbb; clear hbb
    have hsl := dec_rest HX.out H.out.dec
    have hcat : ¬ 9223372036854775807 < 1 + s.length := by omega
    have HSL := Lib.hid hsl; clear hsl
    have hz5 : w3.heap.size < w4.heap.size := (Array.getElem?_eq_some_iff.1 F1.out).1
    go_upto_region 4 with fail
    obtain ⟨w5, h5⟩ : ∃ w5, w4.alloc (.cells #[.int .u8 (48 + (r : Int))] 5) = w5 := ⟨_, rfl⟩
    rw [h5]
    have b5 : Below w4.heap.size w4 w5 := by rw [← h5]; exact (Below.refl _ _).alloc (Nat.le_refl _) _
    clear h5 hcv c0
    have F5 := Lib.hid ((b5.block _ hz5).trans F1.out)
    have B5 := Lib.hid (B4.out.trans (b5.mono B4.out.size)); clear b5
    have R5 := Lib.hid ((B5.out.block _ hz3).trans H.out.row)
    have hQlt : Q < 115792089237316195423570985008687907853269984665640564039457584007913129639936 := by rw [← HQ.out]; exact Nat.lt_of_le_of_lt (Nat.div_le_self _ _) H.out.lt
    by_cases hq0 : Q = 0
    · have HE := Lib.hid (eqz_run Q true (by rw [hq0]; rfl))
      have heq := HE.out
      have HS : Hid (Lib.decDigits x = bb :: s) := Lib.hid (by
        have h10 : X < 10 := by have := HQ.out; omega
        rw [H.out.dec, Lib.decDigits, dif_pos h10, ← HBB.out, show r = X by rw [← HRR.out]; omega]; rfl)
      clear hq0 hQlt
      go_wp2_with (refine wpList_load_row rfl 24 _ rfl w3.heap.size rfl 24 _ (0, 0) _ F5.out Tryd.underlying24 rfl infoWord ?_)
      go_ret
      refine ⟨?_, H.out.old.trans (B5.out.mono H.out.old.size)⟩
      show Ending.returned (.string (⟨[bb].toArray⟩ ++ ⟨s.toArray⟩)) = _
      unfold decS
      rw [HS.out, ba_append]; rfl
    · have HE := Lib.hid (eqz_run Q false (by rw [decide_eq_false_iff_not, Nat.mod_eq_of_lt hQlt]; exact hq0))
      have heq := HE.out
      have HS : Hid (Lib.decDigits x = Lib.decDigits Q ++ ([bb] ++ s)) := Lib.hid (by
        have h10 : ¬ X < 10 := by have := HQ.out; omega
        rw [H.out.dec, Lib.decDigits, dif_neg h10, HQ.out, HRR.out, HBB.out, List.append_assoc])
      have HQL := Lib.hid hQlt
      clear hq0 hQlt
      go_wp2_with (first | (refine wpList_load_row rfl 24 _ rfl w3.heap.size rfl 24 _ (0, 0) _ F5.out Tryd.underlying24 rfl infoWord ?_) | (refine wpList_store_row rfl 24 _ _ rfl w.heap.size (pw Q) rfl rfl 24 (pw X) R5.out infoWord rfl (pw_one _) ?_))
      simp only [Act.put, List.setIfInBounds_toArray, List.set_cons_succ, List.set_cons_zero]
      go_roundw
      case rel =>
        refine ⟨Q, [bb] ++ s, ?_, Lib.hid ⟨HS.out, setRow_heap _ _ _ _ _ _ R5.out, below_setRow (H.out.old.trans (B5.out.mono H.out.old.size)) (Nat.le_refl _) _, HQL.out, Nat.lt_trans (dec_rest HX.out HS.out) (by omega)⟩⟩
        rw [← ba_append]
      case measure =>
        have h1 := dec_rest HX.out HS.out
        have e : slenV (Value.string ({ data := #[bb] } ++ { data := s.toArray })) = 1 + s.length := by
          show (({ data := #[bb] } ++ { data := s.toArray } : ByteArray)).size = _
          simp only [ByteArray.size_append]
          show (#[bb] : Array UInt8).size + s.toArray.size = _
          simp
        rw [e]
        show _ < 200 - s.toArray.size
        simp only [List.size_toArray]
        simp only [List.length_append, List.length_singleton] at h1
        omega

theorem rdecimal_any (x : Nat) (w : World) :
    Calls Tryd.prog 10 #[wv x] w fun e w' => e = .returned (.string (decS (x % 115792089237316195423570985008687907853269984665640564039457584007913129639936))) ∧ Below w.heap.size w w' := by
  have h := rdecimal_walk (x % 115792089237316195423570985008687907853269984665640564039457584007913129639936) (Nat.mod_lt _ (by omega)) w
  rw [pw_modn] at h
  exact h
end Go.Proofs.YtmhgnlngcjckbaaDoor
namespace Go.Proofs.YtmhgnlngcjckbaaDoor
open Go.RowKit

theorem vd_split (d : Nat → Nat) (j : Nat) : ∀ n, j < n → ∃ r, vd d n = vd d j + 65536 ^ j * (d j + 65536 * r)
  | 0, h => by omega
  | n + 1, h => by
    by_cases e : j = n
    · subst e; exact ⟨0, by simp [vd]⟩
    · obtain ⟨r, hr⟩ := vd_split d j n (by omega)
      refine ⟨r + 65536 ^ (n - j - 1) * d n, ?_⟩
      simp only [vd]
      rw [hr, show 65536 ^ n = 65536 ^ j * (65536 * 65536 ^ (n - j - 1)) by rw [← Nat.pow_succ', ← Nat.pow_add, show j + (n - j - 1 + 1) = n by omega]]
      simp only [Nat.mul_add, Nat.mul_assoc, Nat.add_assoc]
theorem vd_digit {d : Nat → Nat} {n : Nat} (h : ∀ j, j < n → d j < 65536) (j : Nat) (hj : j < n) : d j = vd d n / 65536 ^ j % 65536 := by
  obtain ⟨r, hr⟩ := vd_split d j n hj
  have hl := vd_lt (d := d) (n := j) (fun i hi => h i (by omega))
  have hd := h j hj
  rw [hr, Nat.add_comm, Nat.mul_add_div (Nat.pow_pos (by omega)), Nat.div_eq_of_lt hl]
  omega
theorem byte_low (x k : Nat) (hk : k < 16) : x % 115792089237316195423570985008687907853269984665640564039457584007913129639936 / 65536 ^ k % 65536 % 256 = bt x (31 - 2 * k) := by
  unfold bt
  rw [show 31 - (31 - 2 * k) = 2 * k by omega, Nat.pow_mul, show (256 : Nat) ^ 2 = 65536 by rfl]
  omega
theorem byte_high (x k : Nat) (hk : k < 16) : x % 115792089237316195423570985008687907853269984665640564039457584007913129639936 / 65536 ^ k % 65536 / 256 = bt x (30 - 2 * k) := by
  unfold bt
  rw [show 31 - (30 - 2 * k) = 2 * k + 1 by omega, Nat.pow_succ, Nat.pow_mul, show (256 : Nat) ^ 2 = 65536 by rfl, ← Nat.div_div_eq_div_mul]
  omega

/-- The row of bytes, of which the last 2 k have been written. -/
def brw (f : Nat → Nat) (k : Nat) : Array Value := ((List.range 32).map fun j => Value.int .u8 ((if 32 ≤ j + 2 * k then f j else 0 : Nat) : Int)).toArray
theorem brw_size (f : Nat → Nat) (k : Nat) : (brw f k).size = 32 := by simp [brw]
theorem brw_at (f : Nat → Nat) (k j : Nat) (h : j < 32) : (brw f k)[j]? = some (.int .u8 ((if 32 ≤ j + 2 * k then f j else 0 : Nat) : Int)) := by
  simp [brw, h]
theorem brw_nought (f : Nat → Nat) : brw f 0 = #[.int .u8 0, .int .u8 0, .int .u8 0, .int .u8 0, .int .u8 0, .int .u8 0, .int .u8 0, .int .u8 0, .int .u8 0, .int .u8 0, .int .u8 0, .int .u8 0, .int .u8 0, .int .u8 0, .int .u8 0, .int .u8 0, .int .u8 0, .int .u8 0, .int .u8 0, .int .u8 0, .int .u8 0, .int .u8 0, .int .u8 0, .int .u8 0, .int .u8 0, .int .u8 0, .int .u8 0, .int .u8 0, .int .u8 0, .int .u8 0, .int .u8 0, .int .u8 0] := by kernel_rfl
theorem brw_full (f : Nat → Nat) : brw f 16 = brow f 32 := by
  apply Array.ext
  · simp [brw, brow]
  · intro i h1 h2
    have hi : i < 32 := by simpa [brow] using h2
    simp [brw, brow, hi]
theorem brw_one (f : Nat → Nat) (k : Nat) : (brw f k).all (·.oneCell') = true := by
  simp [brw, Value.oneCell']
theorem brw_get (f : Nat → Nat) (k i : Nat) (h : i < (brw f k).size) : (brw f k)[i] = Value.int .u8 ((if 32 ≤ i + 2 * k then f i else 0 : Nat) : Int) := by
  simp [brw]
theorem brw_set (f : Nat → Nat) (k : Nat) (h : k < 16) : ((brw f k).setIfInBounds (31 - 2 * k) (.int .u8 (f (31 - 2 * k) : Nat))).setIfInBounds (30 - 2 * k) (.int .u8 (f (30 - 2 * k) : Nat)) = brw f (k + 1) := by
  apply Array.ext
  · simp [brw]
  · intro i h1 h2
    have hs : i < (brw f k).size := by simpa using h1
    have hs2 : i < ((brw f k).setIfInBounds (31 - 2 * k) (.int .u8 (f (31 - 2 * k) : Nat))).size := by simpa using h1
    rw [brw_get, Array.getElem_setIfInBounds hs2, Array.getElem_setIfInBounds hs, brw_get]
    by_cases e : 30 - 2 * k = i
    · rw [if_pos e, if_pos (show 32 ≤ i + 2 * (k + 1) by omega), e]
    · rw [if_neg e]
      by_cases e2 : 31 - 2 * k = i
      · rw [if_pos e2, if_pos (show 32 ≤ i + 2 * (k + 1) by omega), e2]
      · rw [if_neg e2]
        by_cases l : 32 ≤ i + 2 * k
        · rw [if_pos l, if_pos (show 32 ≤ i + 2 * (k + 1) by omega)]
        · rw [if_neg l, if_neg (show ¬ 32 ≤ i + 2 * (k + 1) by omega)]
theorem and_255 (z : Nat) (h : z < 65536) : bits .and .u64 (z : Int) 255 = ((z % 256 : Nat) : Int) := by
  have := bits_and_u64_nat z 255 (by omega) (by omega)
  rw [show z &&& 255 = z % 256 from Nat.and_two_pow_sub_one_eq_mod z 8] at this
  exact this

end Go.Proofs.YtmhgnlngcjckbaaDoor
namespace Go.Proofs.YtmhgnlngcjckbaaDoor
open Go.RowKit

set_option maxRecDepth 100000 in
set_option maxHeartbeats 2000000 in
theorem rbytes_walk (x : Nat) (w : World) :
    Calls Tryd.prog 5 #[.agg (pw x)] w fun e w' => e = .returned (.agg (brow (bt x) 32)) ∧ Below w.heap.size w w' := by
  have hi : (Tryd.prog.info? 24).map (·.size) = some 4 := by kernel_rfl
  have HI4 := Lib.hid hi; clear hi
  go_enter Tryd.func5, Tryd.ntmps5
  go_wp2_with (refine wpList_load_row rfl 24 _ rfl w.heap.size rfl 24 (pw x) (0, 0) _ (heap2 _ _ _).1 Tryd.underlying24 rfl HI4.out ?_)
  refine (digits_any x _).mono ?_
  rintro e w1 ⟨b, cp, d, rfl, hbs, hD, hdl, hdv, hb⟩
  have hdd : ∀ j, j < 16 → d j = x % 115792089237316195423570985008687907853269984665640564039457584007913129639936 / 65536 ^ j % 65536 := fun j hj => by rw [← hdv]; exact vd_digit hdl j hj
  have HDD := Lib.hid hdd; clear hdd hdl hdv
  have hsz1 : w.heap.size + 1 < w1.heap.size := by have := hb.size; simp at this; omega
  have hr1 : w1.heap[w.heap.size + 1]? = some (.cells (brw (bt x) 0) 26 (0, 0)) := by
    rw [brw_nought]; exact (hb.block _ (by simp)).trans (heap2 _ _ _).2
  have hB1 : Below w.heap.size w w1 := Below.trans (by go_grown) (hb.mono (by simp; omega))
  have HR := Lib.hid (And.intro hr1 (And.intro hB1 (And.intro hD hsz1)))
  clear hr1 hB1 hD hb hbs hsz1
  have hi32 : (Tryd.prog.info? 26).map (·.size) = some (#[.int .u8 0, .int .u8 0, .int .u8 0, .int .u8 0, .int .u8 0, .int .u8 0, .int .u8 0, .int .u8 0, .int .u8 0, .int .u8 0, .int .u8 0, .int .u8 0, .int .u8 0, .int .u8 0, .int .u8 0, .int .u8 0, .int .u8 0, .int .u8 0, .int .u8 0, .int .u8 0, .int .u8 0, .int .u8 0, .int .u8 0, .int .u8 0, .int .u8 0, .int .u8 0, .int .u8 0, .int .u8 0, .int .u8 0, .int .u8 0, .int .u8 0, .int .u8 0] : Array Value).size := by kernel_rfl
  have HI32 := Lib.hid hi32; clear hi32
  go_wp2_with (refine wpList_store_row rfl 26 _ _ rfl w1.heap.size #[.int .u8 0, .int .u8 0, .int .u8 0, .int .u8 0, .int .u8 0, .int .u8 0, .int .u8 0, .int .u8 0, .int .u8 0, .int .u8 0, .int .u8 0, .int .u8 0, .int .u8 0, .int .u8 0, .int .u8 0, .int .u8 0, .int .u8 0, .int .u8 0, .int .u8 0, .int .u8 0, .int .u8 0, .int .u8 0, .int .u8 0, .int .u8 0, .int .u8 0, .int .u8 0, .int .u8 0, .int .u8 0, .int .u8 0, .int .u8 0, .int .u8 0, .int .u8 0] rfl rfl 26 #[.int .u8 0, .int .u8 0, .int .u8 0, .int .u8 0, .int .u8 0, .int .u8 0, .int .u8 0, .int .u8 0, .int .u8 0, .int .u8 0, .int .u8 0, .int .u8 0, .int .u8 0, .int .u8 0, .int .u8 0, .int .u8 0, .int .u8 0, .int .u8 0, .int .u8 0, .int .u8 0, .int .u8 0, .int .u8 0, .int .u8 0, .int .u8 0, .int .u8 0, .int .u8 0, .int .u8 0, .int .u8 0, .int .u8 0, .int .u8 0, .int .u8 0, .int .u8 0] (heap_alloc_new _ _) HI32.out rfl (by kernel_rfl) ?_)
  go_loopw [5] (fun iv wr => ∃ k : Nat, k ≤ 16 ∧ iv = .int .i64 k ∧ Hid (wr.heap[w1.heap.size]? = some (.cells (brw (bt x) k) 26 (0, 0)) ∧ Below w1.heap.size w1 wr)) (fun iv _ => 16 - (intOf iv).toNat)
  case atStart =>
    refine ⟨0, by omega, rfl, Lib.hid ⟨?_, below_setRow (by go_grown) (Nat.le_refl _) _⟩⟩
    rw [brw_nought]; exact setRow_heap _ _ _ _ _ _ (heap_alloc_new _ _)
  case round =>
    obtain ⟨k, hk, rfl, H⟩ := hrel
    have hk0 : (0 : Int) ≤ k := by omega
    have hk1 : (k : Int) ≤ 16 := by omega
    by_cases hlt : k < 16
    · obtain ⟨q1, hq1⟩ : ∃ q : Nat, 31 - 2 * (k : Int) = (q : Int) := ⟨31 - 2 * k, by omega⟩
      obtain ⟨q2, hq2⟩ : ∃ q : Nat, 30 - 2 * (k : Int) = (q : Int) := ⟨30 - 2 * k, by omega⟩
      have a0 : (0 : Int) ≤ q1 := by omega
      have a1 : (q1 : Int) < 32 := by omega
      have b0 : (0 : Int) ≤ q2 := by omega
      have b1 : (q2 : Int) < 32 := by omega
      have hne : q2 ≠ q1 := by omega
      have hne' : q1 ≠ q2 := by omega
      have cd : wr.cell? ⟨b, k, none⟩ = some (.int .u64 (d k : Nat)) := ((HR.out.2.2.1.below H.out.2).2 k hlt)
      have c1 : wr.cell? ⟨w1.heap.size, q1, none⟩ = some (.int .u8 0) := by
        rw [cell_of_row wr _ q1 _ _ _ H.out.1, brw_at _ _ _ (by omega), if_neg (by omega)]; rfl
      have c2 : wr.cell? ⟨w1.heap.size, q2, none⟩ = some (.int .u8 0) := by
        rw [cell_of_row wr _ q2 _ _ _ H.out.1, brw_at _ _ _ (by omega), if_neg (by omega)]; rfl
      have f1 : wr.frozen? ⟨w1.heap.size, q1, none⟩ = false := frozen_of_row wr _ q1 _ _ H.out.1
      have f2 : wr.frozen? ⟨w1.heap.size, q2, none⟩ = false := frozen_of_row wr _ q2 _ _ H.out.1
      go_wp2
      have hbn : b ≠ w1.heap.size := by have := HR.out.2.2.1.1; omega
      have hbn' : w1.heap.size ≠ b := Ne.symm hbn
      have hd1 : d k < 65536 := by rw [HDD.out k hlt]; omega
      clear hk1
      go_region
      go_wp2
      go_roundw
      case rel =>
        have hv1 : bits .and .u64 ((d k : Nat) : Int) 255 % 256 = ((bt x (31 - 2 * k) : Nat) : Int) := by
          rw [and_255 _ hd1, ← byte_low x k hlt, ← HDD.out k hlt]; omega
        have hv2 : ((d k : Nat) : Int) / 256 = ((bt x (30 - 2 * k) : Nat) : Int) := by
          rw [← byte_high x k hlt, ← HDD.out k hlt]; omega
        have e1 : q1 = 31 - 2 * k := by omega
        have e2 : q2 = 30 - 2 * k := by omega
        refine ⟨k + 1, by omega, by go_num, Lib.hid ⟨?_, below_drewN ((H.out.2.setCell (by simp) _).setCell (by simp) _) 1⟩⟩
        refine (heap_setCell_same _ _ _ _ _ _ (heap_setCell_same _ _ _ _ _ _ H.out.1)).trans ?_
        rw [hv1, hv2, e1, e2, brw_set _ _ hlt]
      case measure => simp [intOf]; omega
    · obtain rfl : k = 16 := by omega
      have hi : (Tryd.prog.info? 26).map (·.size) = some (brw (bt x) 16).size := by rw [brw_size]; kernel_rfl
      have HI := Lib.hid hi; clear hi
      have H2 : wr.heap[w.heap.size + 1]? = some (.cells (brw (bt x) 0) 26 (0, 0)) := (H.out.2.block _ HR.out.2.2.2).trans HR.out.1
      have H3 := Lib.hid H2; clear H2
      go_wp2_with (first | (refine wpList_load_row rfl 26 _ rfl w1.heap.size rfl 26 _ (0, 0) _ H.out.1 Tryd.underlying26 rfl HI.out ?_) | (refine wpList_store_row rfl 26 _ _ rfl (w.heap.size + 1) (brw (bt x) 16) rfl rfl 26 (brw (bt x) 0) H3.out HI.out (by rw [brw_size, brw_size]) (brw_one _ _) ?_))
      refine bodyPost_ret (v := .agg (brw (bt x) 16)) (results_cell_row (p := 2) rfl _ _ (w.heap.size + 1) 26 _ (0, 0) _ rfl (setRow_heap _ _ _ _ _ _ H3.out) Tryd.underlying26 rfl HI.out) rfl ⟨by rw [brw_full], below_setRow (HR.out.2.1.trans (H.out.2.mono (by have := HR.out.2.2.2; omega))) (by omega) _⟩
end Go.Proofs.YtmhgnlngcjckbaaDoor
namespace Go.Proofs.YtmhgnlngcjckbaaDoor
open Go.RowKit
abbrev Tab10 (w : World) : Prop := Lib.TabIs Tryd.prog w "internal/strconv.uint64pow10" .u64 Lib.pow10Tab
/-- The worlds: the word, the bytes, the table, and words in blocks. -/
structure CWt (w : World) (x n : Nat) (v : Value) (f : Nat → Nat) (L : List (Nat × Array Value)) (wx : World) : Prop where
  old : Below w.heap.size w wx
  ra : wx.heap[w.heap.size]? = some (.cells (pw x) 24 (0, 0))
  ab : ArgB wx v n f
  tb : Tab10 wx
  rows : ∀ r ∈ L, wx.heap[r.1]? = some (.cells r.2 24 (0, 0))
section
variable {w wx w' : World} {x n : Nat} {v : Value} {f : Nat → Nat} {L : List (Nat × Array Value)}
theorem CWt.is (c : CWt w x n v f L wx) (b : Nat) (cs : Array Value) (hm : (b, cs) ∈ L) : wx.heap[b]? = some (.cells cs 24 (0, 0)) := c.rows _ hm
theorem CWt.below (c : CWt w x n v f L wx) (hb : Below wx.heap.size wx w') : CWt w x n v f L w' := ⟨c.old.trans (hb.mono c.old.size), (hb.block _ (Array.getElem?_eq_some_iff.1 c.ra).1).trans c.ra, c.ab.below hb, tab_below c.tb hb, fun r hr => (hb.block _ (Array.getElem?_eq_some_iff.1 (c.rows r hr)).1).trans (c.rows r hr)⟩
theorem CWt.drew (c : CWt w x n v f L wx) : CWt w x n v f L wx.drew := c.below (Below.drew (Below.refl _ _))
theorem CWt.lay (c : CWt w x n v f L wx) (cs : Array Value) : CWt w x n v f ((wx.heap.size, cs) :: L) ((wx.alloc (.cells (#[.int .u64 0, .int .u64 0, .int .u64 0, .int .u64 0]) 24)).setRow wx.heap.size cs) := by
  have hb : Below wx.heap.size wx ((wx.alloc (.cells (#[.int .u64 0, .int .u64 0, .int .u64 0, .int .u64 0]) 24)).setRow wx.heap.size cs) := below_setRow ((Below.refl _ _).alloc (Nat.le_refl _) _) (Nat.le_refl _) _
  have c' := c.below hb
  refine ⟨c'.old, c'.ra, c'.ab, c'.tb, fun r hr => ?_⟩
  rcases List.mem_cons.1 hr with rfl | hr
  · exact setRow_heap _ _ _ _ _ _ (heap_alloc_new _ _)
  · exact c'.rows r hr
theorem CWt.cell (c : CWt w x n v f L wx) (j : Nat) (u : Value) (h : (pw x)[j]? = some u) : wx.cell? ⟨w.heap.size, j, none⟩ = some u := (cell_of_row _ _ j _ _ _ c.ra).trans h
theorem CWt.calls {fn : FuncId} {args : Array Value} {r : Value} (h : ∀ wx, Calls Tryd.prog fn args wx fun e w' => e = .returned r ∧ Below wx.heap.size wx w') : ∀ wx, CWt w x n v f L wx → Calls Tryd.prog fn args wx fun e w' => e = .returned r ∧ CWt w x n v f L w' :=
  fun wx c => (h wx).mono fun _ _ hh => ⟨hh.1, c.below hh.2⟩
end
theorem neq_str (s : ByteArray) (w : World) : (binOp BinOp.neq 9 (.string s) (.string s)).run Tryd.prog w = .ok (.bool false) w := by go_simp
theorem arr_litT (t : Array Value) : t = ((List.range t.size).map fun i => t.getD i undef).toArray := by
  apply Array.ext
  · simp
  · intro i h1 h2
    simp [h1]
def SlB (n : Nat) (f : Nat → Nat) (u : Value) (wx : World) : Prop := ∃ g c, u = .slice (some ⟨g, 0, none⟩) n c ∧ n ≤ c ∧ g < wx.heap.size ∧ ∀ j, j < n → wx.cell? ⟨g, 0 + j, none⟩ = some (.int .u8 (f j : Nat))
theorem SlB.below {n : Nat} {f : Nat → Nat} {u : Value} {wa wb : World} (hb : Below wa.heap.size wa wb) (h : SlB n f u wa) : SlB n f u wb := by
  obtain ⟨g, c, h1, h2, h3, h4⟩ := h
  exact ⟨g, c, h1, h2, Nat.lt_of_lt_of_le h3 hb.size, fun j hj => (hb.cell (p := ⟨g, 0 + j, none⟩) h3).trans (h4 j hj)⟩
def EmB (u : Value) (wx : World) : Prop := ∃ D, u = .slice (some ⟨D, 0, none⟩) 0 0 ∧ D < wx.heap.size
theorem EmB.below {u : Value} {wa wb : World} (hb : Below wa.heap.size wa wb) (h : EmB u wa) : EmB u wb := by
  obtain ⟨D, h1, h2⟩ := h
  exact ⟨D, h1, Nat.lt_of_lt_of_le h2 hb.size⟩
theorem eql_en (a : Int) (w : World) : (binOp BinOp.eql 33 (.int .i64 a) (.int .i64 a)).run Tryd.prog w = .ok (.bool true) w := by go_simp
theorem neq_u (a : Nat) (w : World) : (binOp BinOp.neq 22 (.int .u64 (a : Nat)) (.int .u64 (a : Nat))).run Tryd.prog w = .ok (.bool false) w := by go_simp
theorem pw_small (x : Nat) : pw (x % 18446744073709551616) = #[.int .u64 ((x % 18446744073709551616 : Nat) : Int), .int .u64 0, .int .u64 0, .int .u64 0] := by
  unfold pw
  have h := Nat.mod_lt x (show 0 < 18446744073709551616 by omega)
  rw [Nat.mod_mod, Nat.div_eq_of_lt h, Nat.div_eq_of_lt (Nat.lt_trans h (by omega)), Nat.div_eq_of_lt (Nat.lt_trans h (by omega))]
  rfl
theorem neq_one (x : Nat) (w : World) : (binOp BinOp.neq 24 (.agg (pw (x % 18446744073709551616))) (.agg #[.int .u64 ((x % 18446744073709551616 : Nat) : Int), .int .u64 0, .int .u64 0, .int .u64 0])).run Tryd.prog w = .ok (.bool false) w := by
  rw [← pw_small]
  have h := Nat.mod_lt x (show 0 < 18446744073709551616 by omega)
  simpa using new_run (x % 18446744073709551616) (x % 18446744073709551616) (Nat.lt_trans h (by omega)) (Nat.lt_trans h (by omega)) w
theorem bt_lt (x n : Nat) : bt x n < 256 := Nat.mod_lt _ (by omega)
set_option maxRecDepth 100000 in
set_option maxHeartbeats 8000000 in
theorem wtexts_any (x n : Nat) (hx : x < 115792089237316195423570985008687907853269984665640564039457584007913129639936) (v : Value) (f : Nat → Nat) (hf : ∀ j, f j < 256) (hn : n ≤ 140737488355328) (s : ByteArray) (hs : s.size ≤ maxLen) (w : World) (hv : ArgB w v n f) (ht : Tab10 w) : Calls Tryd.prog 3 #[.agg (pw x), v, .string s] w fun e w' => e = .returned (.bool true) ∧ Below w.heap.size w w' := by
  have H0 := Lib.hid (show CWt w x n v f [] (w.alloc (.cells (pw x) 24)) from
    have hb : Below w.heap.size w (w.alloc (.cells (pw x) 24)) := (Below.refl _ _).alloc (Nat.le_refl _) _
    ⟨hb, heap_alloc_new _ _, hv.below hb, tab_below ht hb, fun r hr => by cases hr⟩)
  have HBy := Lib.hid (fun wx => bytes_any x wx)
  have HRBy := Lib.hid (fun wx => rbytes_walk x wx)
  rw [wv_pw] at HBy
  have HSm := Lib.hid (fun wx => small_any x wx)
  rw [wv_pw, Nat.mod_eq_of_lt hx] at HSm
  have hyw : wv (fnum f n) = .agg (pw (fnum f n % 115792089237316195423570985008687907853269984665640564039457584007913129639936)) := by rw [pw_modn]; rfl
  obtain ⟨y, hy⟩ : ∃ y, fnum f n % 115792089237316195423570985008687907853269984665640564039457584007913129639936 = y := ⟨_, rfl⟩
  have hyl : y < 115792089237316195423570985008687907853269984665640564039457584007913129639936 := by rw [← hy]; exact Nat.mod_lt _ (by omega)
  rw [hy] at hyw
  have HFr := Lib.hid (show ∀ u wx, SlB n f u wx → Calls Tryd.prog 7 #[u] wx fun e w' => e = .returned (.agg (pw y)) ∧ Below wx.heap.size wx w' from fun u wx ⟨g, c, e1, e2, e3, e4⟩ => by
    rw [e1, ← hyw]
    exact from_any g 0 n c f (fun j _ => hf j) e2 (by omega) wx e3 e4)
  have HRF := Lib.hid (show ∀ wx, ArgB wx v n f → Calls Tryd.prog 8 #[v] wx fun e w' => e = .returned (.agg (pw y)) ∧ Below wx.heap.size wx w' from fun wx h => by
    rw [← hyw]
    exact fromr_arg h hf hn)
  have HFX := Lib.hid (show ∀ D wx, wx.heap[D]? = some (.cells (brow (bt x) 32) 26 (0, 0)) → Calls Tryd.prog 7 #[.slice (some ⟨D, 0, none⟩) 32 32] wx fun e w' => e = .returned (.agg (pw x)) ∧ Below wx.heap.size wx w' from fun D wx h => by
    have h1 := from_any D 0 32 32 (bt x) (fun j _ => bt_lt x j) (Nat.le_refl _) (by omega) wx (Array.getElem?_eq_some_iff.1 h).1 (fun j hj => (cell_of_row _ _ (0 + j) _ _ _ h).trans (by rw [Nat.zero_add, brow_at _ _ _ hj, if_pos hj]))
    rwa [fnum_word, wv_pw] at h1)
  have HDe := Lib.hid (show ∀ wx, Tab10 wx → Calls Tryd.prog 9 #[.agg (pw x)] wx fun e w' => e = .returned (.string (decS x)) ∧ Below wx.heap.size wx w' from fun wx h => by
    have h1 := decimal_any x wx h
    rwa [Nat.mod_eq_of_lt hx] at h1)
  have HRD := Lib.hid (fun wx => rdecimal_walk x hx wx)
  have HPD := Lib.hid (fun wx => parse_decimal x hx wx)
  have HNB := Lib.hid (fun wx => neb32 (bt x) wx)
  have HNY := Lib.hid (show ∀ wx, (binOp BinOp.neq 24 (.agg (pw y)) (.agg (pw y))).run Tryd.prog wx = .ok (.bool false) wx from fun wx => by simpa using new_run y y hyl hyl wx)
  have HNX := Lib.hid (show ∀ wx, (binOp BinOp.neq 24 (.agg (pw x)) (.agg (pw x))).run Tryd.prog wx = .ok (.bool false) wx from fun wx => by simpa using new_run x x hx hx wx)
  have HEX := Lib.hid (fun wx => (eqw_run x x hx hx wx).trans (by rw [decide_eq_true rfl]))
  obtain ⟨p, q, hp1, hp2, ⟨z, hz⟩, qn, hq⟩ := parses_same s hs
  subst hz hq
  have HP1 := Lib.hid hp1
  have HP2 := Lib.hid hp2
  have zm : pw z = pw (z % 115792089237316195423570985008687907853269984665640564039457584007913129639936) := (pw_modn z).symm
  have HEZ := Lib.hid (show ∀ wx, (binOp BinOp.eql 24 (.agg (pw z)) (.agg (pw z))).run Tryd.prog wx = .ok (.bool true) wx from fun wx => by
    rw [zm]
    exact (eqw_run _ _ (Nat.mod_lt _ (by omega)) (Nat.mod_lt _ (by omega)) wx).trans (by rw [decide_eq_true rfl]))
  have HOF := Lib.hid (fun wx => of_wv (x % 18446744073709551616) (Nat.mod_lt _ (by omega)) wx)
  have HLV := Lib.hid (fun wx => lives_any wx)
  have HX := Lib.hid (And.intro hx hn)
  obtain ⟨sm, hsm⟩ : ∃ sm, decide (x < 18446744073709551616) = sm := ⟨_, rfl⟩
  obtain ⟨nv, hnv⟩ : ∃ nv, (if x < 18446744073709551616 then x else 0) = nv := ⟨_, rfl⟩
  rw [hsm, hnv] at HSm
  have HS := Lib.hid (And.intro hsm hnv)
  clear hx hf hn hs hv ht hyw hy hyl hp1 hp2 zm hsm hnv
  go_enter Tryd.func3, Tryd.ntmps3
  go_wp2_with fail
  refine region_many [.val 18 ((.agg (pw x))), .val 19 ((.agg (brow (bt x) 32))), .val 20 ((.agg (pw x))), .val 21 ((.agg (brow (bt x) 32))), .blk 7 26, .blk 8 26, .laid 7 26, .laid 8 26] [7, 8] (fun p => if p = 7 then (brow (bt x) 32) else (brow (bt x) 32)) (fun i => i) (by kernel_rfl) (by kernel_rfl) (by exact ⟨trivial, trivial, trivial, trivial, (by simp [Sp.ok]), (by simp [Sp.ok]), (by simp [Sp.ok]), (by simp [Sp.ok]), trivial⟩) (by intro p hp q hq hne D e; simp only [List.mem_cons, List.not_mem_nil, or_false] at hp; rcases hp with rfl | rfl <;> simp [undef] at e) ?_ ?_
  · refine ⟨?_, ?_, ?_, ?_, ?_, ?_, ?_, ?_, trivial⟩
    · intro ac wx hC hsz hK
      have h0 : ac.tmps.getD 3 undef = (.pointer (some ⟨w.heap.size, 0, none⟩)) := hK.1 3 (by kernel_rfl)
      exact mm_load 24 (.tmp 3) ((.pointer (some ⟨w.heap.size, 0, none⟩))) ((.agg (pw x))) rfl rfl (by kernel_rfl) h0 (ld_pw (H0.out.below hC.1).ra) hC (by kernel_rfl) (by rw [hsz]; exact of_decide_eq_true (by kernel_rfl)) rfl
    · intro ac wx hC hsz hK
      have h0 : ac.tmps.getD 18 undef = (.agg (pw x)) := hK.2 ⟨0, .data⟩ (by simp) rfl _ rfl
      refine mm_call 4 #[ac.tmps.getD 18 undef] ((.agg (brow (bt x) 32))) rfl (by kernel_rfl) (by kernel_rfl) ?_ hC (by kernel_rfl) (by rw [hsz]; exact of_decide_eq_true (by kernel_rfl)) rfl
      rw [h0]
      exact HBy.out wx
    · intro ac wx hC hsz hK
      have h0 : ac.tmps.getD 3 undef = (.pointer (some ⟨w.heap.size, 0, none⟩)) := hK.1 3 (by kernel_rfl)
      exact mm_load 24 (.tmp 3) ((.pointer (some ⟨w.heap.size, 0, none⟩))) ((.agg (pw x))) rfl rfl (by kernel_rfl) h0 (ld_pw (H0.out.below hC.1).ra) hC (by kernel_rfl) (by rw [hsz]; exact of_decide_eq_true (by kernel_rfl)) rfl
    · intro ac wx hC hsz hK
      have h0 : ac.tmps.getD 20 undef = (.agg (pw x)) := hK.2 ⟨2, .data⟩ (by simp) rfl _ rfl
      refine mm_call 5 #[ac.tmps.getD 20 undef] ((.agg (brow (bt x) 32))) rfl (by kernel_rfl) (by kernel_rfl) ?_ hC (by kernel_rfl) (by rw [hsz]; exact of_decide_eq_true (by kernel_rfl)) rfl
      rw [h0]
      exact HRBy.out wx
    · intro ac wx hC hsz hK
      exact mm_new 26 (#[.int .u8 0, .int .u8 0, .int .u8 0, .int .u8 0, .int .u8 0, .int .u8 0, .int .u8 0, .int .u8 0, .int .u8 0, .int .u8 0, .int .u8 0, .int .u8 0, .int .u8 0, .int .u8 0, .int .u8 0, .int .u8 0, .int .u8 0, .int .u8 0, .int .u8 0, .int .u8 0, .int .u8 0, .int .u8 0, .int .u8 0, .int .u8 0, .int .u8 0, .int .u8 0, .int .u8 0, .int .u8 0, .int .u8 0, .int .u8 0, .int .u8 0, .int .u8 0]) rfl (by kernel_rfl) (by kernel_rfl) hC (by simp [brow_size]) (by rw [hsz]; exact of_decide_eq_true (by kernel_rfl)) rfl
    · intro ac wx hC hsz hK
      exact mm_new 26 (#[.int .u8 0, .int .u8 0, .int .u8 0, .int .u8 0, .int .u8 0, .int .u8 0, .int .u8 0, .int .u8 0, .int .u8 0, .int .u8 0, .int .u8 0, .int .u8 0, .int .u8 0, .int .u8 0, .int .u8 0, .int .u8 0, .int .u8 0, .int .u8 0, .int .u8 0, .int .u8 0, .int .u8 0, .int .u8 0, .int .u8 0, .int .u8 0, .int .u8 0, .int .u8 0, .int .u8 0, .int .u8 0, .int .u8 0, .int .u8 0, .int .u8 0, .int .u8 0]) rfl (by kernel_rfl) (by kernel_rfl) hC (by simp [brow_size]) (by rw [hsz]; exact of_decide_eq_true (by kernel_rfl)) rfl
    · intro ac wx hC hsz hK
      have h0 : ac.tmps.getD 19 undef = (.agg (brow (bt x) 32)) := hK.2 ⟨1, .data⟩ (by simp) rfl _ rfl
      exact mm_store (p := 7) 26 (.tmp 7) (.tmp 19) _ rfl rfl (by kernel_rfl) rfl h0 (by simp) (hK.2 ⟨4, .data⟩ (by simp) rfl _ rfl) (fun D cs h3 h4 => store_32 (h4.trans (by simp [brow_size])) h3) hC rfl
    · intro ac wx hC hsz hK
      have h0 : ac.tmps.getD 21 undef = (.agg (brow (bt x) 32)) := hK.2 ⟨3, .data⟩ (by simp) rfl _ rfl
      exact mm_store (p := 8) 26 (.tmp 8) (.tmp 21) _ rfl rfl (by kernel_rfl) rfl h0 (by simp) (hK.2 ⟨5, .data⟩ (by simp) rfl _ rfl) (fun D cs h3 h4 => store_32 (h4.trans (by simp [brow_size])) h3) hC rfl
  intro f1 w1 hb1 hap hf1
  obtain ⟨D7, s7, -, r7⟩ := hf1 6 _ rfl
  obtain ⟨D8, s8, -, r8⟩ := hf1 7 _ rfl
  have H1 := Lib.hid (And.intro (H0.out.below hb1) (And.intro r7 r8))
  clear hf1 hap hb1 H0 HBy HRBy r7 r8
  generalize hAct : putAll _ _ _ = A1 at *
  have s7' : A1.tmps.getD 7 undef = .pointer (some ⟨D7, 0, none⟩) := s7
  have s8' : A1.tmps.getD 8 undef = .pointer (some ⟨D8, 0, none⟩) := s8
  have s0 : A1.tmps.getD 0 undef = .agg (pw x) := by subst hAct; kernel_rfl
  have s1 : A1.tmps.getD 1 undef = v := by subst hAct; kernel_rfl
  have s2 : A1.tmps.getD 2 undef = .string s := by subst hAct; kernel_rfl
  have s3 : A1.tmps.getD 3 undef = .pointer (some ⟨w.heap.size, 0, none⟩) := by subst hAct; kernel_rfl
  have hsz : A1.tmps.size = 130 := by rw [← hAct, putAll_size]; rfl
  have hdf : A1.defers = [] := by subst hAct; kernel_rfl
  clear hAct s7 s8 f1
  obtain ⟨u4, t4⟩ : ∃ u, A1.tmps.getD 4 undef = u := ⟨_, rfl⟩
  obtain ⟨u5, t5⟩ : ∃ u, A1.tmps.getD 5 undef = u := ⟨_, rfl⟩
  obtain ⟨u6, t6⟩ : ∃ u, A1.tmps.getD 6 undef = u := ⟨_, rfl⟩
  obtain ⟨u9, t9⟩ : ∃ u, A1.tmps.getD 9 undef = u := ⟨_, rfl⟩
  obtain ⟨u10, t10⟩ : ∃ u, A1.tmps.getD 10 undef = u := ⟨_, rfl⟩
  obtain ⟨u11, t11⟩ : ∃ u, A1.tmps.getD 11 undef = u := ⟨_, rfl⟩
  obtain ⟨u12, t12⟩ : ∃ u, A1.tmps.getD 12 undef = u := ⟨_, rfl⟩
  obtain ⟨u13, t13⟩ : ∃ u, A1.tmps.getD 13 undef = u := ⟨_, rfl⟩
  obtain ⟨u14, t14⟩ : ∃ u, A1.tmps.getD 14 undef = u := ⟨_, rfl⟩
  obtain ⟨u15, t15⟩ : ∃ u, A1.tmps.getD 15 undef = u := ⟨_, rfl⟩
  obtain ⟨u16, t16⟩ : ∃ u, A1.tmps.getD 16 undef = u := ⟨_, rfl⟩
  obtain ⟨u17, t17⟩ : ∃ u, A1.tmps.getD 17 undef = u := ⟨_, rfl⟩
  obtain ⟨u18, t18⟩ : ∃ u, A1.tmps.getD 18 undef = u := ⟨_, rfl⟩
  obtain ⟨u19, t19⟩ : ∃ u, A1.tmps.getD 19 undef = u := ⟨_, rfl⟩
  obtain ⟨u20, t20⟩ : ∃ u, A1.tmps.getD 20 undef = u := ⟨_, rfl⟩
  obtain ⟨u21, t21⟩ : ∃ u, A1.tmps.getD 21 undef = u := ⟨_, rfl⟩
  obtain ⟨u22, t22⟩ : ∃ u, A1.tmps.getD 22 undef = u := ⟨_, rfl⟩
  obtain ⟨u23, t23⟩ : ∃ u, A1.tmps.getD 23 undef = u := ⟨_, rfl⟩
  obtain ⟨u24, t24⟩ : ∃ u, A1.tmps.getD 24 undef = u := ⟨_, rfl⟩
  obtain ⟨u25, t25⟩ : ∃ u, A1.tmps.getD 25 undef = u := ⟨_, rfl⟩
  obtain ⟨u26, t26⟩ : ∃ u, A1.tmps.getD 26 undef = u := ⟨_, rfl⟩
  obtain ⟨u27, t27⟩ : ∃ u, A1.tmps.getD 27 undef = u := ⟨_, rfl⟩
  obtain ⟨u28, t28⟩ : ∃ u, A1.tmps.getD 28 undef = u := ⟨_, rfl⟩
  obtain ⟨u29, t29⟩ : ∃ u, A1.tmps.getD 29 undef = u := ⟨_, rfl⟩
  obtain ⟨u30, t30⟩ : ∃ u, A1.tmps.getD 30 undef = u := ⟨_, rfl⟩
  obtain ⟨u31, t31⟩ : ∃ u, A1.tmps.getD 31 undef = u := ⟨_, rfl⟩
  obtain ⟨u32, t32⟩ : ∃ u, A1.tmps.getD 32 undef = u := ⟨_, rfl⟩
  obtain ⟨u33, t33⟩ : ∃ u, A1.tmps.getD 33 undef = u := ⟨_, rfl⟩
  obtain ⟨u34, t34⟩ : ∃ u, A1.tmps.getD 34 undef = u := ⟨_, rfl⟩
  obtain ⟨u35, t35⟩ : ∃ u, A1.tmps.getD 35 undef = u := ⟨_, rfl⟩
  obtain ⟨u36, t36⟩ : ∃ u, A1.tmps.getD 36 undef = u := ⟨_, rfl⟩
  obtain ⟨u37, t37⟩ : ∃ u, A1.tmps.getD 37 undef = u := ⟨_, rfl⟩
  obtain ⟨u38, t38⟩ : ∃ u, A1.tmps.getD 38 undef = u := ⟨_, rfl⟩
  obtain ⟨u39, t39⟩ : ∃ u, A1.tmps.getD 39 undef = u := ⟨_, rfl⟩
  obtain ⟨u40, t40⟩ : ∃ u, A1.tmps.getD 40 undef = u := ⟨_, rfl⟩
  obtain ⟨u41, t41⟩ : ∃ u, A1.tmps.getD 41 undef = u := ⟨_, rfl⟩
  obtain ⟨u42, t42⟩ : ∃ u, A1.tmps.getD 42 undef = u := ⟨_, rfl⟩
  obtain ⟨u43, t43⟩ : ∃ u, A1.tmps.getD 43 undef = u := ⟨_, rfl⟩
  obtain ⟨u44, t44⟩ : ∃ u, A1.tmps.getD 44 undef = u := ⟨_, rfl⟩
  obtain ⟨u45, t45⟩ : ∃ u, A1.tmps.getD 45 undef = u := ⟨_, rfl⟩
  obtain ⟨u46, t46⟩ : ∃ u, A1.tmps.getD 46 undef = u := ⟨_, rfl⟩
  obtain ⟨u47, t47⟩ : ∃ u, A1.tmps.getD 47 undef = u := ⟨_, rfl⟩
  obtain ⟨u48, t48⟩ : ∃ u, A1.tmps.getD 48 undef = u := ⟨_, rfl⟩
  obtain ⟨u49, t49⟩ : ∃ u, A1.tmps.getD 49 undef = u := ⟨_, rfl⟩
  obtain ⟨u50, t50⟩ : ∃ u, A1.tmps.getD 50 undef = u := ⟨_, rfl⟩
  obtain ⟨u51, t51⟩ : ∃ u, A1.tmps.getD 51 undef = u := ⟨_, rfl⟩
  obtain ⟨u52, t52⟩ : ∃ u, A1.tmps.getD 52 undef = u := ⟨_, rfl⟩
  obtain ⟨u53, t53⟩ : ∃ u, A1.tmps.getD 53 undef = u := ⟨_, rfl⟩
  obtain ⟨u54, t54⟩ : ∃ u, A1.tmps.getD 54 undef = u := ⟨_, rfl⟩
  obtain ⟨u55, t55⟩ : ∃ u, A1.tmps.getD 55 undef = u := ⟨_, rfl⟩
  obtain ⟨u56, t56⟩ : ∃ u, A1.tmps.getD 56 undef = u := ⟨_, rfl⟩
  obtain ⟨u57, t57⟩ : ∃ u, A1.tmps.getD 57 undef = u := ⟨_, rfl⟩
  obtain ⟨u58, t58⟩ : ∃ u, A1.tmps.getD 58 undef = u := ⟨_, rfl⟩
  obtain ⟨u59, t59⟩ : ∃ u, A1.tmps.getD 59 undef = u := ⟨_, rfl⟩
  obtain ⟨u60, t60⟩ : ∃ u, A1.tmps.getD 60 undef = u := ⟨_, rfl⟩
  obtain ⟨u61, t61⟩ : ∃ u, A1.tmps.getD 61 undef = u := ⟨_, rfl⟩
  obtain ⟨u62, t62⟩ : ∃ u, A1.tmps.getD 62 undef = u := ⟨_, rfl⟩
  obtain ⟨u63, t63⟩ : ∃ u, A1.tmps.getD 63 undef = u := ⟨_, rfl⟩
  obtain ⟨u64, t64⟩ : ∃ u, A1.tmps.getD 64 undef = u := ⟨_, rfl⟩
  obtain ⟨u65, t65⟩ : ∃ u, A1.tmps.getD 65 undef = u := ⟨_, rfl⟩
  obtain ⟨u66, t66⟩ : ∃ u, A1.tmps.getD 66 undef = u := ⟨_, rfl⟩
  obtain ⟨u67, t67⟩ : ∃ u, A1.tmps.getD 67 undef = u := ⟨_, rfl⟩
  obtain ⟨u68, t68⟩ : ∃ u, A1.tmps.getD 68 undef = u := ⟨_, rfl⟩
  obtain ⟨u69, t69⟩ : ∃ u, A1.tmps.getD 69 undef = u := ⟨_, rfl⟩
  obtain ⟨u70, t70⟩ : ∃ u, A1.tmps.getD 70 undef = u := ⟨_, rfl⟩
  obtain ⟨u71, t71⟩ : ∃ u, A1.tmps.getD 71 undef = u := ⟨_, rfl⟩
  obtain ⟨u72, t72⟩ : ∃ u, A1.tmps.getD 72 undef = u := ⟨_, rfl⟩
  obtain ⟨u73, t73⟩ : ∃ u, A1.tmps.getD 73 undef = u := ⟨_, rfl⟩
  obtain ⟨u74, t74⟩ : ∃ u, A1.tmps.getD 74 undef = u := ⟨_, rfl⟩
  obtain ⟨u75, t75⟩ : ∃ u, A1.tmps.getD 75 undef = u := ⟨_, rfl⟩
  obtain ⟨u76, t76⟩ : ∃ u, A1.tmps.getD 76 undef = u := ⟨_, rfl⟩
  obtain ⟨u77, t77⟩ : ∃ u, A1.tmps.getD 77 undef = u := ⟨_, rfl⟩
  obtain ⟨u78, t78⟩ : ∃ u, A1.tmps.getD 78 undef = u := ⟨_, rfl⟩
  obtain ⟨u79, t79⟩ : ∃ u, A1.tmps.getD 79 undef = u := ⟨_, rfl⟩
  obtain ⟨u80, t80⟩ : ∃ u, A1.tmps.getD 80 undef = u := ⟨_, rfl⟩
  obtain ⟨u81, t81⟩ : ∃ u, A1.tmps.getD 81 undef = u := ⟨_, rfl⟩
  obtain ⟨u82, t82⟩ : ∃ u, A1.tmps.getD 82 undef = u := ⟨_, rfl⟩
  obtain ⟨u83, t83⟩ : ∃ u, A1.tmps.getD 83 undef = u := ⟨_, rfl⟩
  obtain ⟨u84, t84⟩ : ∃ u, A1.tmps.getD 84 undef = u := ⟨_, rfl⟩
  obtain ⟨u85, t85⟩ : ∃ u, A1.tmps.getD 85 undef = u := ⟨_, rfl⟩
  obtain ⟨u86, t86⟩ : ∃ u, A1.tmps.getD 86 undef = u := ⟨_, rfl⟩
  obtain ⟨u87, t87⟩ : ∃ u, A1.tmps.getD 87 undef = u := ⟨_, rfl⟩
  obtain ⟨u88, t88⟩ : ∃ u, A1.tmps.getD 88 undef = u := ⟨_, rfl⟩
  obtain ⟨u89, t89⟩ : ∃ u, A1.tmps.getD 89 undef = u := ⟨_, rfl⟩
  obtain ⟨u90, t90⟩ : ∃ u, A1.tmps.getD 90 undef = u := ⟨_, rfl⟩
  obtain ⟨u91, t91⟩ : ∃ u, A1.tmps.getD 91 undef = u := ⟨_, rfl⟩
  obtain ⟨u92, t92⟩ : ∃ u, A1.tmps.getD 92 undef = u := ⟨_, rfl⟩
  obtain ⟨u93, t93⟩ : ∃ u, A1.tmps.getD 93 undef = u := ⟨_, rfl⟩
  obtain ⟨u94, t94⟩ : ∃ u, A1.tmps.getD 94 undef = u := ⟨_, rfl⟩
  obtain ⟨u95, t95⟩ : ∃ u, A1.tmps.getD 95 undef = u := ⟨_, rfl⟩
  obtain ⟨u96, t96⟩ : ∃ u, A1.tmps.getD 96 undef = u := ⟨_, rfl⟩
  obtain ⟨u97, t97⟩ : ∃ u, A1.tmps.getD 97 undef = u := ⟨_, rfl⟩
  obtain ⟨u98, t98⟩ : ∃ u, A1.tmps.getD 98 undef = u := ⟨_, rfl⟩
  obtain ⟨u99, t99⟩ : ∃ u, A1.tmps.getD 99 undef = u := ⟨_, rfl⟩
  obtain ⟨u100, t100⟩ : ∃ u, A1.tmps.getD 100 undef = u := ⟨_, rfl⟩
  obtain ⟨u101, t101⟩ : ∃ u, A1.tmps.getD 101 undef = u := ⟨_, rfl⟩
  obtain ⟨u102, t102⟩ : ∃ u, A1.tmps.getD 102 undef = u := ⟨_, rfl⟩
  obtain ⟨u103, t103⟩ : ∃ u, A1.tmps.getD 103 undef = u := ⟨_, rfl⟩
  obtain ⟨u104, t104⟩ : ∃ u, A1.tmps.getD 104 undef = u := ⟨_, rfl⟩
  obtain ⟨u105, t105⟩ : ∃ u, A1.tmps.getD 105 undef = u := ⟨_, rfl⟩
  obtain ⟨u106, t106⟩ : ∃ u, A1.tmps.getD 106 undef = u := ⟨_, rfl⟩
  obtain ⟨u107, t107⟩ : ∃ u, A1.tmps.getD 107 undef = u := ⟨_, rfl⟩
  obtain ⟨u108, t108⟩ : ∃ u, A1.tmps.getD 108 undef = u := ⟨_, rfl⟩
  obtain ⟨u109, t109⟩ : ∃ u, A1.tmps.getD 109 undef = u := ⟨_, rfl⟩
  obtain ⟨u110, t110⟩ : ∃ u, A1.tmps.getD 110 undef = u := ⟨_, rfl⟩
  obtain ⟨u111, t111⟩ : ∃ u, A1.tmps.getD 111 undef = u := ⟨_, rfl⟩
  obtain ⟨u112, t112⟩ : ∃ u, A1.tmps.getD 112 undef = u := ⟨_, rfl⟩
  obtain ⟨u113, t113⟩ : ∃ u, A1.tmps.getD 113 undef = u := ⟨_, rfl⟩
  obtain ⟨u114, t114⟩ : ∃ u, A1.tmps.getD 114 undef = u := ⟨_, rfl⟩
  obtain ⟨u115, t115⟩ : ∃ u, A1.tmps.getD 115 undef = u := ⟨_, rfl⟩
  obtain ⟨u116, t116⟩ : ∃ u, A1.tmps.getD 116 undef = u := ⟨_, rfl⟩
  obtain ⟨u117, t117⟩ : ∃ u, A1.tmps.getD 117 undef = u := ⟨_, rfl⟩
  obtain ⟨u118, t118⟩ : ∃ u, A1.tmps.getD 118 undef = u := ⟨_, rfl⟩
  obtain ⟨u119, t119⟩ : ∃ u, A1.tmps.getD 119 undef = u := ⟨_, rfl⟩
  obtain ⟨u120, t120⟩ : ∃ u, A1.tmps.getD 120 undef = u := ⟨_, rfl⟩
  obtain ⟨u121, t121⟩ : ∃ u, A1.tmps.getD 121 undef = u := ⟨_, rfl⟩
  obtain ⟨u122, t122⟩ : ∃ u, A1.tmps.getD 122 undef = u := ⟨_, rfl⟩
  obtain ⟨u123, t123⟩ : ∃ u, A1.tmps.getD 123 undef = u := ⟨_, rfl⟩
  obtain ⟨u124, t124⟩ : ∃ u, A1.tmps.getD 124 undef = u := ⟨_, rfl⟩
  obtain ⟨u125, t125⟩ : ∃ u, A1.tmps.getD 125 undef = u := ⟨_, rfl⟩
  obtain ⟨u126, t126⟩ : ∃ u, A1.tmps.getD 126 undef = u := ⟨_, rfl⟩
  obtain ⟨u127, t127⟩ : ∃ u, A1.tmps.getD 127 undef = u := ⟨_, rfl⟩
  obtain ⟨u128, t128⟩ : ∃ u, A1.tmps.getD 128 undef = u := ⟨_, rfl⟩
  obtain ⟨u129, t129⟩ : ∃ u, A1.tmps.getD 129 undef = u := ⟨_, rfl⟩
  obtain ⟨tm, df⟩ := A1
  simp only at *
  have hLt := arr_litT tm
  rw [hsz] at hLt
  simp only [List.range, List.range.loop, List.map] at hLt
  rw [s0, s1, s2, s3, t4, t5, t6, s7', s8', t9, t10, t11, t12, t13, t14, t15, t16, t17, t18, t19, t20, t21, t22, t23, t24, t25, t26, t27, t28, t29, t30, t31, t32, t33, t34, t35, t36, t37, t38, t39, t40, t41, t42, t43, t44, t45, t46, t47, t48, t49, t50, t51, t52, t53, t54, t55, t56, t57, t58, t59, t60, t61, t62, t63, t64, t65, t66, t67, t68, t69, t70, t71, t72, t73, t74, t75, t76, t77, t78, t79, t80, t81, t82, t83, t84, t85, t86, t87, t88, t89, t90, t91, t92, t93, t94, t95, t96, t97, t98, t99, t100, t101, t102, t103, t104, t105, t106, t107, t108, t109, t110, t111, t112, t113, t114, t115, t116, t117, t118, t119, t120, t121, t122, t123, t124, t125, t126, t127, t128, t129] at hLt
  subst hLt hdf
  clear s0 s1 s2 s3 t4 t5 t6 s7' s8' t9 t10 t11 t12 t13 t14 t15 t16 t17 t18 t19 t20 t21 t22 t23 t24 t25 t26 t27 t28 t29 t30 t31 t32 t33 t34 t35 t36 t37 t38 t39 t40 t41 t42 t43 t44 t45 t46 t47 t48 t49 t50 t51 t52 t53 t54 t55 t56 t57 t58 t59 t60 t61 t62 t63 t64 t65 t66 t67 t68 t69 t70 t71 t72 t73 t74 t75 t76 t77 t78 t79 t80 t81 t82 t83 t84 t85 t86 t87 t88 t89 t90 t91 t92 t93 t94 t95 t96 t97 t98 t99 t100 t101 t102 t103 t104 t105 t106 t107 t108 t109 t110 t111 t112 t113 t114 t115 t116 t117 t118 t119 t120 t121 t122 t123 t124 t125 t126 t127 t128 t129 hsz
  go_wp2_with (refine wpList_ld rfl 24 _ rfl (.pointer (some ⟨w.heap.size, 0, none⟩)) (.agg (pw x)) rfl (ld_pw (by exact H1.out.1.ra)) ?_)
  refine (HSm.out _).mono ?_
  rintro e w2 ⟨rfl, hb2⟩
  have H2 := Lib.hid (And.intro (H1.out.1.below hb2) (And.intro ((hb2.block _ (Array.getElem?_eq_some_iff.1 H1.out.2.1).1).trans H1.out.2.1) ((hb2.block _ (Array.getElem?_eq_some_iff.1 H1.out.2.2).1).trans H1.out.2.2)))
  clear hb2 H1 HSm
  go_wp2_with fail
  refine region_many [.val 27 ((.agg (brow (bt x) 32))), .val 28 ((.agg (brow (bt x) 32))), .val 29 ((.bool false)), .val 30 ((.bool false)), .own 31 EmB, .val 32 (v), .own 33 (SlB n f), .val 34 (.agg (pw y)), .val 35 (v), .val 36 ((.agg (pw y))), .val 37 ((.bool false)), .val 38 ((.bool false)), .val 39 ((.bool false)), .val 40 (.slice (some ⟨D7, 0, none⟩) 32 32), .val 41 ((.agg (pw x))), .val 42 ((.agg (pw x))), .val 43 ((.bool false)), .val 44 ((.bool false)), .val 45 ((.bool false)), .val 46 ((.agg (pw x))), .val 47 ((.string (decS x))), .val 48 ((.agg (pw x))), .val 49 ((.string (decS x))), .val 50 ((.bool false)), .val 51 ((.bool false))] [] (fun p => #[]) (fun i => i) (by kernel_rfl) (by kernel_rfl) (by exact ⟨trivial, trivial, trivial, trivial, ⟨rfl, fun _ _ _ hb h => EmB.below hb h⟩, trivial, ⟨rfl, fun _ _ _ hb h => SlB.below hb h⟩, trivial, trivial, trivial, trivial, trivial, trivial, trivial, trivial, trivial, trivial, trivial, trivial, trivial, trivial, trivial, trivial, trivial, trivial, trivial⟩) (fun p hp => by cases hp) ?_ ?_
  · refine ⟨?_, ?_, ?_, ?_, ?_, ?_, ?_, ?_, ?_, ?_, ?_, ?_, ?_, ?_, ?_, ?_, ?_, ?_, ?_, ?_, ?_, ?_, ?_, ?_, ?_, trivial⟩
    · intro ac wx hC hsz hK
      have h0 : ac.tmps.getD 7 undef = (.pointer (some ⟨D7, 0, none⟩)) := hK.1 7 (by kernel_rfl)
      exact mm_load 26 (.tmp 7) ((.pointer (some ⟨D7, 0, none⟩))) ((.agg (brow (bt x) 32))) rfl rfl (by kernel_rfl) h0 (ld_32 ((hC.1.block _ (Array.getElem?_eq_some_iff.1 H2.out.2.1).1).trans H2.out.2.1)) hC (by kernel_rfl) (by rw [hsz]; exact of_decide_eq_true (by kernel_rfl)) rfl
    · intro ac wx hC hsz hK
      have h0 : ac.tmps.getD 8 undef = (.pointer (some ⟨D8, 0, none⟩)) := hK.1 8 (by kernel_rfl)
      exact mm_load 26 (.tmp 8) ((.pointer (some ⟨D8, 0, none⟩))) ((.agg (brow (bt x) 32))) rfl rfl (by kernel_rfl) h0 (ld_32 ((hC.1.block _ (Array.getElem?_eq_some_iff.1 H2.out.2.2).1).trans H2.out.2.2)) hC (by kernel_rfl) (by rw [hsz]; exact of_decide_eq_true (by kernel_rfl)) rfl
    · intro ac wx hC hsz hK
      have h0 : ac.tmps.getD 27 undef = (.agg (brow (bt x) 32)) := hK.2 ⟨0, .data⟩ (by simp) rfl _ rfl
      have h1 : ac.tmps.getD 28 undef = (.agg (brow (bt x) 32)) := hK.2 ⟨1, .data⟩ (by simp) rfl _ rfl
      exact mm_bin .neq 26 (.tmp 27) (.tmp 28) 26 ((.agg (brow (bt x) 32))) ((.agg (brow (bt x) 32))) ((.bool false)) rfl rfl (by kernel_rfl) h0 h1 (by kernel_rfl) (HNB.out wx) hC (by kernel_rfl) (by rw [hsz]; exact of_decide_eq_true (by kernel_rfl)) rfl
    · intro ac wx hC hsz hK
      have h0 : ac.tmps.getD 29 undef = (.bool false) := hK.2 ⟨2, .data⟩ (by simp) rfl _ rfl
      exact mm_val ((.bool false)) rfl (by kernel_rfl) (by rw [← h0]; kernel_rfl) hC (by kernel_rfl) (by rw [hsz]; exact of_decide_eq_true (by kernel_rfl)) rfl
    · intro ac wx hC hsz hK
      have hg : ac.tmps.getD 30 undef = (.bool false) := hK.2 ⟨3, .guard⟩ (by simp) rfl _ rfl
      have hb : Below wx.heap.size wx (wx.alloc (.cells #[] 5)) := (Below.refl _ _).alloc (Nat.le_refl _) _
      exact mm_grow (.slice (some ⟨wx.heap.size, 0, none⟩) 0 0) (wx.alloc (.cells #[] 5)) EmB rfl (wanted_of (d := 30) rfl (by kernel_rfl) hg) (by kernel_rfl) hb ⟨_, rfl, by simp⟩ hC (by kernel_rfl) (by rw [hsz]; exact of_decide_eq_true (by kernel_rfl)) rfl
    · intro ac wx hC hsz hK
      have hg : ac.tmps.getD 30 undef = (.bool false) := hK.2 ⟨3, .guard⟩ (by simp) rfl _ rfl
      have h0 : ac.tmps.getD 1 undef = v := hK.1 1 (by kernel_rfl)
      exact mm_val (v) rfl (wanted_of (d := 30) rfl (by kernel_rfl) hg) (by rw [← h0]; kernel_rfl) hC (by kernel_rfl) (by rw [hsz]; exact of_decide_eq_true (by kernel_rfl)) rfl
    · intro ac wx hC hsz hK
      have hg : ac.tmps.getD 30 undef = (.bool false) := hK.2 ⟨3, .guard⟩ (by simp) rfl _ rfl
      have h1 : ac.tmps.getD 32 undef = v := hK.2 ⟨5, .data⟩ (by simp) rfl _ rfl
      obtain ⟨E0, hE, hEl⟩ := hK.2 ⟨4, .data⟩ (by simp) rfl _ rfl
      have h0 : ac.tmps.getD 31 undef = .slice (some ⟨E0, 0, none⟩) 0 0 := hE
      obtain ⟨g5, c5, w5, hr5, e5, f5, k5, b5⟩ := copied hEl (H2.out.1.below hC.1).ab HX.out.2
      exact mm_grow (.slice (some ⟨g5, 0, none⟩) n c5) w5 (SlB n f) rfl (wanted_of (d := 30) rfl (by kernel_rfl) hg) (run_app (.tmp 31) (.tmp 32) _ _ _ rfl rfl h0 h1 hr5) b5 ⟨g5, c5, rfl, e5, f5, k5⟩ hC (by kernel_rfl) (by rw [hsz]; exact of_decide_eq_true (by kernel_rfl)) rfl
    · intro ac wx hC hsz hK
      have hg : ac.tmps.getD 30 undef = (.bool false) := hK.2 ⟨3, .guard⟩ (by simp) rfl _ rfl
      have hG := hK.2 ⟨6, .data⟩ (by simp) rfl _ rfl
      exact mm_call 7 #[ac.tmps.getD 33 undef] (.agg (pw y)) rfl (wanted_of (d := 30) rfl (by kernel_rfl) hg) (by kernel_rfl) (HFr.out _ wx hG) hC (by kernel_rfl) (by rw [hsz]; exact of_decide_eq_true (by kernel_rfl)) rfl
    · intro ac wx hC hsz hK
      have hg : ac.tmps.getD 30 undef = (.bool false) := hK.2 ⟨3, .guard⟩ (by simp) rfl _ rfl
      have h0 : ac.tmps.getD 1 undef = v := hK.1 1 (by kernel_rfl)
      exact mm_val (v) rfl (wanted_of (d := 30) rfl (by kernel_rfl) hg) (by rw [← h0]; kernel_rfl) hC (by kernel_rfl) (by rw [hsz]; exact of_decide_eq_true (by kernel_rfl)) rfl
    · intro ac wx hC hsz hK
      have hg : ac.tmps.getD 30 undef = (.bool false) := hK.2 ⟨3, .guard⟩ (by simp) rfl _ rfl
      have h0 : ac.tmps.getD 35 undef = v := hK.2 ⟨8, .data⟩ (by simp) rfl _ rfl
      refine mm_call 8 #[ac.tmps.getD 35 undef] ((.agg (pw y))) rfl (wanted_of (d := 30) rfl (by kernel_rfl) hg) (by kernel_rfl) ?_ hC (by kernel_rfl) (by rw [hsz]; exact of_decide_eq_true (by kernel_rfl)) rfl
      rw [h0]
      exact HRF.out wx (H2.out.1.below hC.1).ab
    · intro ac wx hC hsz hK
      have hg : ac.tmps.getD 30 undef = (.bool false) := hK.2 ⟨3, .guard⟩ (by simp) rfl _ rfl
      have h0 : ac.tmps.getD 34 undef = (.agg (pw y)) := hK.2 ⟨7, .data⟩ (by simp) rfl _ rfl
      have h1 : ac.tmps.getD 36 undef = (.agg (pw y)) := hK.2 ⟨9, .data⟩ (by simp) rfl _ rfl
      exact mm_bin .neq 24 (.tmp 34) (.tmp 36) 24 ((.agg (pw y))) ((.agg (pw y))) ((.bool false)) rfl rfl (wanted_of (d := 30) rfl (by kernel_rfl) hg) h0 h1 (by kernel_rfl) (HNY.out wx) hC (by kernel_rfl) (by rw [hsz]; exact of_decide_eq_true (by kernel_rfl)) rfl
    · intro ac wx hC hsz hK
      have h0 : ac.tmps.getD 30 undef = (.bool false) := hK.2 ⟨3, .data⟩ (by simp) rfl _ rfl
      have h2 : ac.tmps.getD 37 undef = (.bool false) := hK.2 ⟨10, .data⟩ (by simp) rfl _ rfl
      exact mm_val ((.bool false)) rfl (by kernel_rfl) (run_pick (.tmp 30) (.const (.bool true)) (.tmp 37) false ((.bool false)) rfl h0 (h2)) hC (by kernel_rfl) (by rw [hsz]; exact of_decide_eq_true (by kernel_rfl)) rfl
    · intro ac wx hC hsz hK
      have h0 : ac.tmps.getD 38 undef = (.bool false) := hK.2 ⟨11, .data⟩ (by simp) rfl _ rfl
      exact mm_val ((.bool false)) rfl (by kernel_rfl) (by rw [← h0]; kernel_rfl) hC (by kernel_rfl) (by rw [hsz]; exact of_decide_eq_true (by kernel_rfl)) rfl
    · intro ac wx hC hsz hK
      have hg : ac.tmps.getD 39 undef = (.bool false) := hK.2 ⟨12, .guard⟩ (by simp) rfl _ rfl
      have h0 : ac.tmps.getD 7 undef = (.pointer (some ⟨D7, 0, none⟩)) := hK.1 7 (by kernel_rfl)
      refine mm_sem (Instr.sliceAt 26 (ac.tmps.getD 7 undef) none none none) (.slice (some ⟨D7, 0, none⟩) 32 32) rfl (wanted_of (d := 39) rfl (by kernel_rfl) hg) (by kernel_rfl) ?_ hC (by kernel_rfl) (by rw [hsz]; exact of_decide_eq_true (by kernel_rfl)) rfl
      rw [h0]
      kernel_rfl
    · intro ac wx hC hsz hK
      have hg : ac.tmps.getD 39 undef = (.bool false) := hK.2 ⟨12, .guard⟩ (by simp) rfl _ rfl
      have h0 : ac.tmps.getD 40 undef = (.slice (some ⟨D7, 0, none⟩) 32 32) := hK.2 ⟨13, .data⟩ (by simp) rfl _ rfl
      refine mm_call 7 #[ac.tmps.getD 40 undef] ((.agg (pw x))) rfl (wanted_of (d := 39) rfl (by kernel_rfl) hg) (by kernel_rfl) ?_ hC (by kernel_rfl) (by rw [hsz]; exact of_decide_eq_true (by kernel_rfl)) rfl
      rw [h0]
      exact HFX.out D7 wx ((hC.1.block _ (Array.getElem?_eq_some_iff.1 H2.out.2.1).1).trans H2.out.2.1)
    · intro ac wx hC hsz hK
      have hg : ac.tmps.getD 39 undef = (.bool false) := hK.2 ⟨12, .guard⟩ (by simp) rfl _ rfl
      have h0 : ac.tmps.getD 3 undef = (.pointer (some ⟨w.heap.size, 0, none⟩)) := hK.1 3 (by kernel_rfl)
      exact mm_load 24 (.tmp 3) ((.pointer (some ⟨w.heap.size, 0, none⟩))) ((.agg (pw x))) rfl rfl (wanted_of (d := 39) rfl (by kernel_rfl) hg) h0 (ld_pw (H2.out.1.below hC.1).ra) hC (by kernel_rfl) (by rw [hsz]; exact of_decide_eq_true (by kernel_rfl)) rfl
    · intro ac wx hC hsz hK
      have hg : ac.tmps.getD 39 undef = (.bool false) := hK.2 ⟨12, .guard⟩ (by simp) rfl _ rfl
      have h0 : ac.tmps.getD 41 undef = (.agg (pw x)) := hK.2 ⟨14, .data⟩ (by simp) rfl _ rfl
      have h1 : ac.tmps.getD 42 undef = (.agg (pw x)) := hK.2 ⟨15, .data⟩ (by simp) rfl _ rfl
      exact mm_bin .neq 24 (.tmp 41) (.tmp 42) 24 ((.agg (pw x))) ((.agg (pw x))) ((.bool false)) rfl rfl (wanted_of (d := 39) rfl (by kernel_rfl) hg) h0 h1 (by kernel_rfl) (HNX.out wx) hC (by kernel_rfl) (by rw [hsz]; exact of_decide_eq_true (by kernel_rfl)) rfl
    · intro ac wx hC hsz hK
      have h0 : ac.tmps.getD 39 undef = (.bool false) := hK.2 ⟨12, .data⟩ (by simp) rfl _ rfl
      have h2 : ac.tmps.getD 43 undef = (.bool false) := hK.2 ⟨16, .data⟩ (by simp) rfl _ rfl
      exact mm_val ((.bool false)) rfl (by kernel_rfl) (run_pick (.tmp 39) (.const (.bool true)) (.tmp 43) false ((.bool false)) rfl h0 (h2)) hC (by kernel_rfl) (by rw [hsz]; exact of_decide_eq_true (by kernel_rfl)) rfl
    · intro ac wx hC hsz hK
      have h0 : ac.tmps.getD 44 undef = (.bool false) := hK.2 ⟨17, .data⟩ (by simp) rfl _ rfl
      exact mm_val ((.bool false)) rfl (by kernel_rfl) (by rw [← h0]; kernel_rfl) hC (by kernel_rfl) (by rw [hsz]; exact of_decide_eq_true (by kernel_rfl)) rfl
    · intro ac wx hC hsz hK
      have hg : ac.tmps.getD 45 undef = (.bool false) := hK.2 ⟨18, .guard⟩ (by simp) rfl _ rfl
      have h0 : ac.tmps.getD 3 undef = (.pointer (some ⟨w.heap.size, 0, none⟩)) := hK.1 3 (by kernel_rfl)
      exact mm_load 24 (.tmp 3) ((.pointer (some ⟨w.heap.size, 0, none⟩))) ((.agg (pw x))) rfl rfl (wanted_of (d := 45) rfl (by kernel_rfl) hg) h0 (ld_pw (H2.out.1.below hC.1).ra) hC (by kernel_rfl) (by rw [hsz]; exact of_decide_eq_true (by kernel_rfl)) rfl
    · intro ac wx hC hsz hK
      have hg : ac.tmps.getD 45 undef = (.bool false) := hK.2 ⟨18, .guard⟩ (by simp) rfl _ rfl
      have h0 : ac.tmps.getD 46 undef = (.agg (pw x)) := hK.2 ⟨19, .data⟩ (by simp) rfl _ rfl
      refine mm_call 9 #[ac.tmps.getD 46 undef] ((.string (decS x))) rfl (wanted_of (d := 45) rfl (by kernel_rfl) hg) (by kernel_rfl) ?_ hC (by kernel_rfl) (by rw [hsz]; exact of_decide_eq_true (by kernel_rfl)) rfl
      rw [h0]
      exact HDe.out wx (H2.out.1.below hC.1).tb
    · intro ac wx hC hsz hK
      have hg : ac.tmps.getD 45 undef = (.bool false) := hK.2 ⟨18, .guard⟩ (by simp) rfl _ rfl
      have h0 : ac.tmps.getD 3 undef = (.pointer (some ⟨w.heap.size, 0, none⟩)) := hK.1 3 (by kernel_rfl)
      exact mm_load 24 (.tmp 3) ((.pointer (some ⟨w.heap.size, 0, none⟩))) ((.agg (pw x))) rfl rfl (wanted_of (d := 45) rfl (by kernel_rfl) hg) h0 (ld_pw (H2.out.1.below hC.1).ra) hC (by kernel_rfl) (by rw [hsz]; exact of_decide_eq_true (by kernel_rfl)) rfl
    · intro ac wx hC hsz hK
      have hg : ac.tmps.getD 45 undef = (.bool false) := hK.2 ⟨18, .guard⟩ (by simp) rfl _ rfl
      have h0 : ac.tmps.getD 48 undef = (.agg (pw x)) := hK.2 ⟨21, .data⟩ (by simp) rfl _ rfl
      refine mm_call 10 #[ac.tmps.getD 48 undef] ((.string (decS x))) rfl (wanted_of (d := 45) rfl (by kernel_rfl) hg) (by kernel_rfl) ?_ hC (by kernel_rfl) (by rw [hsz]; exact of_decide_eq_true (by kernel_rfl)) rfl
      rw [h0]
      exact HRD.out wx
    · intro ac wx hC hsz hK
      have hg : ac.tmps.getD 45 undef = (.bool false) := hK.2 ⟨18, .guard⟩ (by simp) rfl _ rfl
      have h0 : ac.tmps.getD 47 undef = (.string (decS x)) := hK.2 ⟨20, .data⟩ (by simp) rfl _ rfl
      have h1 : ac.tmps.getD 49 undef = (.string (decS x)) := hK.2 ⟨22, .data⟩ (by simp) rfl _ rfl
      exact mm_bin .neq 9 (.tmp 47) (.tmp 49) 9 ((.string (decS x))) ((.string (decS x))) ((.bool false)) rfl rfl (wanted_of (d := 45) rfl (by kernel_rfl) hg) h0 h1 (by kernel_rfl) (neq_str _ wx) hC (by kernel_rfl) (by rw [hsz]; exact of_decide_eq_true (by kernel_rfl)) rfl
    · intro ac wx hC hsz hK
      have h0 : ac.tmps.getD 45 undef = (.bool false) := hK.2 ⟨18, .data⟩ (by simp) rfl _ rfl
      have h2 : ac.tmps.getD 50 undef = (.bool false) := hK.2 ⟨23, .data⟩ (by simp) rfl _ rfl
      exact mm_val ((.bool false)) rfl (by kernel_rfl) (run_pick (.tmp 45) (.const (.bool true)) (.tmp 50) false ((.bool false)) rfl h0 (h2)) hC (by kernel_rfl) (by rw [hsz]; exact of_decide_eq_true (by kernel_rfl)) rfl
  intro f3 w3 hb3 hap hf3
  have s51 := hf3 24 _ rfl
  have H3 := Lib.hid (H2.out.1.below hb3)
  clear hf3 hap hb3 H2
  generalize hAct : putAll _ _ _ = A1 at *
  have s51' : A1.tmps.getD 51 undef = .bool false := s51
  have s0 : A1.tmps.getD 0 undef = .agg (pw x) := by subst hAct; kernel_rfl
  have s1 : A1.tmps.getD 1 undef = v := by subst hAct; kernel_rfl
  have s2 : A1.tmps.getD 2 undef = .string s := by subst hAct; kernel_rfl
  have s3 : A1.tmps.getD 3 undef = .pointer (some ⟨w.heap.size, 0, none⟩) := by subst hAct; kernel_rfl
  have s9 : A1.tmps.getD 9 undef = .int .u64 (nv : Nat) := by subst hAct; kernel_rfl
  have s10 : A1.tmps.getD 10 undef = .bool sm := by subst hAct; kernel_rfl
  have hsz : A1.tmps.size = 130 := by rw [← hAct, putAll_size]; rfl
  have hdf : A1.defers = [] := by subst hAct; kernel_rfl
  clear hAct s51 f3
  obtain ⟨u4, t4⟩ : ∃ u, A1.tmps.getD 4 undef = u := ⟨_, rfl⟩
  obtain ⟨u5, t5⟩ : ∃ u, A1.tmps.getD 5 undef = u := ⟨_, rfl⟩
  obtain ⟨u6, t6⟩ : ∃ u, A1.tmps.getD 6 undef = u := ⟨_, rfl⟩
  obtain ⟨u7, t7⟩ : ∃ u, A1.tmps.getD 7 undef = u := ⟨_, rfl⟩
  obtain ⟨u8, t8⟩ : ∃ u, A1.tmps.getD 8 undef = u := ⟨_, rfl⟩
  obtain ⟨u11, t11⟩ : ∃ u, A1.tmps.getD 11 undef = u := ⟨_, rfl⟩
  obtain ⟨u12, t12⟩ : ∃ u, A1.tmps.getD 12 undef = u := ⟨_, rfl⟩
  obtain ⟨u13, t13⟩ : ∃ u, A1.tmps.getD 13 undef = u := ⟨_, rfl⟩
  obtain ⟨u14, t14⟩ : ∃ u, A1.tmps.getD 14 undef = u := ⟨_, rfl⟩
  obtain ⟨u15, t15⟩ : ∃ u, A1.tmps.getD 15 undef = u := ⟨_, rfl⟩
  obtain ⟨u16, t16⟩ : ∃ u, A1.tmps.getD 16 undef = u := ⟨_, rfl⟩
  obtain ⟨u17, t17⟩ : ∃ u, A1.tmps.getD 17 undef = u := ⟨_, rfl⟩
  obtain ⟨u18, t18⟩ : ∃ u, A1.tmps.getD 18 undef = u := ⟨_, rfl⟩
  obtain ⟨u19, t19⟩ : ∃ u, A1.tmps.getD 19 undef = u := ⟨_, rfl⟩
  obtain ⟨u20, t20⟩ : ∃ u, A1.tmps.getD 20 undef = u := ⟨_, rfl⟩
  obtain ⟨u21, t21⟩ : ∃ u, A1.tmps.getD 21 undef = u := ⟨_, rfl⟩
  obtain ⟨u22, t22⟩ : ∃ u, A1.tmps.getD 22 undef = u := ⟨_, rfl⟩
  obtain ⟨u23, t23⟩ : ∃ u, A1.tmps.getD 23 undef = u := ⟨_, rfl⟩
  obtain ⟨u24, t24⟩ : ∃ u, A1.tmps.getD 24 undef = u := ⟨_, rfl⟩
  obtain ⟨u25, t25⟩ : ∃ u, A1.tmps.getD 25 undef = u := ⟨_, rfl⟩
  obtain ⟨u26, t26⟩ : ∃ u, A1.tmps.getD 26 undef = u := ⟨_, rfl⟩
  obtain ⟨u27, t27⟩ : ∃ u, A1.tmps.getD 27 undef = u := ⟨_, rfl⟩
  obtain ⟨u28, t28⟩ : ∃ u, A1.tmps.getD 28 undef = u := ⟨_, rfl⟩
  obtain ⟨u29, t29⟩ : ∃ u, A1.tmps.getD 29 undef = u := ⟨_, rfl⟩
  obtain ⟨u30, t30⟩ : ∃ u, A1.tmps.getD 30 undef = u := ⟨_, rfl⟩
  obtain ⟨u31, t31⟩ : ∃ u, A1.tmps.getD 31 undef = u := ⟨_, rfl⟩
  obtain ⟨u32, t32⟩ : ∃ u, A1.tmps.getD 32 undef = u := ⟨_, rfl⟩
  obtain ⟨u33, t33⟩ : ∃ u, A1.tmps.getD 33 undef = u := ⟨_, rfl⟩
  obtain ⟨u34, t34⟩ : ∃ u, A1.tmps.getD 34 undef = u := ⟨_, rfl⟩
  obtain ⟨u35, t35⟩ : ∃ u, A1.tmps.getD 35 undef = u := ⟨_, rfl⟩
  obtain ⟨u36, t36⟩ : ∃ u, A1.tmps.getD 36 undef = u := ⟨_, rfl⟩
  obtain ⟨u37, t37⟩ : ∃ u, A1.tmps.getD 37 undef = u := ⟨_, rfl⟩
  obtain ⟨u38, t38⟩ : ∃ u, A1.tmps.getD 38 undef = u := ⟨_, rfl⟩
  obtain ⟨u39, t39⟩ : ∃ u, A1.tmps.getD 39 undef = u := ⟨_, rfl⟩
  obtain ⟨u40, t40⟩ : ∃ u, A1.tmps.getD 40 undef = u := ⟨_, rfl⟩
  obtain ⟨u41, t41⟩ : ∃ u, A1.tmps.getD 41 undef = u := ⟨_, rfl⟩
  obtain ⟨u42, t42⟩ : ∃ u, A1.tmps.getD 42 undef = u := ⟨_, rfl⟩
  obtain ⟨u43, t43⟩ : ∃ u, A1.tmps.getD 43 undef = u := ⟨_, rfl⟩
  obtain ⟨u44, t44⟩ : ∃ u, A1.tmps.getD 44 undef = u := ⟨_, rfl⟩
  obtain ⟨u45, t45⟩ : ∃ u, A1.tmps.getD 45 undef = u := ⟨_, rfl⟩
  obtain ⟨u46, t46⟩ : ∃ u, A1.tmps.getD 46 undef = u := ⟨_, rfl⟩
  obtain ⟨u47, t47⟩ : ∃ u, A1.tmps.getD 47 undef = u := ⟨_, rfl⟩
  obtain ⟨u48, t48⟩ : ∃ u, A1.tmps.getD 48 undef = u := ⟨_, rfl⟩
  obtain ⟨u49, t49⟩ : ∃ u, A1.tmps.getD 49 undef = u := ⟨_, rfl⟩
  obtain ⟨u50, t50⟩ : ∃ u, A1.tmps.getD 50 undef = u := ⟨_, rfl⟩
  obtain ⟨u52, t52⟩ : ∃ u, A1.tmps.getD 52 undef = u := ⟨_, rfl⟩
  obtain ⟨u53, t53⟩ : ∃ u, A1.tmps.getD 53 undef = u := ⟨_, rfl⟩
  obtain ⟨u54, t54⟩ : ∃ u, A1.tmps.getD 54 undef = u := ⟨_, rfl⟩
  obtain ⟨u55, t55⟩ : ∃ u, A1.tmps.getD 55 undef = u := ⟨_, rfl⟩
  obtain ⟨u56, t56⟩ : ∃ u, A1.tmps.getD 56 undef = u := ⟨_, rfl⟩
  obtain ⟨u57, t57⟩ : ∃ u, A1.tmps.getD 57 undef = u := ⟨_, rfl⟩
  obtain ⟨u58, t58⟩ : ∃ u, A1.tmps.getD 58 undef = u := ⟨_, rfl⟩
  obtain ⟨u59, t59⟩ : ∃ u, A1.tmps.getD 59 undef = u := ⟨_, rfl⟩
  obtain ⟨u60, t60⟩ : ∃ u, A1.tmps.getD 60 undef = u := ⟨_, rfl⟩
  obtain ⟨u61, t61⟩ : ∃ u, A1.tmps.getD 61 undef = u := ⟨_, rfl⟩
  obtain ⟨u62, t62⟩ : ∃ u, A1.tmps.getD 62 undef = u := ⟨_, rfl⟩
  obtain ⟨u63, t63⟩ : ∃ u, A1.tmps.getD 63 undef = u := ⟨_, rfl⟩
  obtain ⟨u64, t64⟩ : ∃ u, A1.tmps.getD 64 undef = u := ⟨_, rfl⟩
  obtain ⟨u65, t65⟩ : ∃ u, A1.tmps.getD 65 undef = u := ⟨_, rfl⟩
  obtain ⟨u66, t66⟩ : ∃ u, A1.tmps.getD 66 undef = u := ⟨_, rfl⟩
  obtain ⟨u67, t67⟩ : ∃ u, A1.tmps.getD 67 undef = u := ⟨_, rfl⟩
  obtain ⟨u68, t68⟩ : ∃ u, A1.tmps.getD 68 undef = u := ⟨_, rfl⟩
  obtain ⟨u69, t69⟩ : ∃ u, A1.tmps.getD 69 undef = u := ⟨_, rfl⟩
  obtain ⟨u70, t70⟩ : ∃ u, A1.tmps.getD 70 undef = u := ⟨_, rfl⟩
  obtain ⟨u71, t71⟩ : ∃ u, A1.tmps.getD 71 undef = u := ⟨_, rfl⟩
  obtain ⟨u72, t72⟩ : ∃ u, A1.tmps.getD 72 undef = u := ⟨_, rfl⟩
  obtain ⟨u73, t73⟩ : ∃ u, A1.tmps.getD 73 undef = u := ⟨_, rfl⟩
  obtain ⟨u74, t74⟩ : ∃ u, A1.tmps.getD 74 undef = u := ⟨_, rfl⟩
  obtain ⟨u75, t75⟩ : ∃ u, A1.tmps.getD 75 undef = u := ⟨_, rfl⟩
  obtain ⟨u76, t76⟩ : ∃ u, A1.tmps.getD 76 undef = u := ⟨_, rfl⟩
  obtain ⟨u77, t77⟩ : ∃ u, A1.tmps.getD 77 undef = u := ⟨_, rfl⟩
  obtain ⟨u78, t78⟩ : ∃ u, A1.tmps.getD 78 undef = u := ⟨_, rfl⟩
  obtain ⟨u79, t79⟩ : ∃ u, A1.tmps.getD 79 undef = u := ⟨_, rfl⟩
  obtain ⟨u80, t80⟩ : ∃ u, A1.tmps.getD 80 undef = u := ⟨_, rfl⟩
  obtain ⟨u81, t81⟩ : ∃ u, A1.tmps.getD 81 undef = u := ⟨_, rfl⟩
  obtain ⟨u82, t82⟩ : ∃ u, A1.tmps.getD 82 undef = u := ⟨_, rfl⟩
  obtain ⟨u83, t83⟩ : ∃ u, A1.tmps.getD 83 undef = u := ⟨_, rfl⟩
  obtain ⟨u84, t84⟩ : ∃ u, A1.tmps.getD 84 undef = u := ⟨_, rfl⟩
  obtain ⟨u85, t85⟩ : ∃ u, A1.tmps.getD 85 undef = u := ⟨_, rfl⟩
  obtain ⟨u86, t86⟩ : ∃ u, A1.tmps.getD 86 undef = u := ⟨_, rfl⟩
  obtain ⟨u87, t87⟩ : ∃ u, A1.tmps.getD 87 undef = u := ⟨_, rfl⟩
  obtain ⟨u88, t88⟩ : ∃ u, A1.tmps.getD 88 undef = u := ⟨_, rfl⟩
  obtain ⟨u89, t89⟩ : ∃ u, A1.tmps.getD 89 undef = u := ⟨_, rfl⟩
  obtain ⟨u90, t90⟩ : ∃ u, A1.tmps.getD 90 undef = u := ⟨_, rfl⟩
  obtain ⟨u91, t91⟩ : ∃ u, A1.tmps.getD 91 undef = u := ⟨_, rfl⟩
  obtain ⟨u92, t92⟩ : ∃ u, A1.tmps.getD 92 undef = u := ⟨_, rfl⟩
  obtain ⟨u93, t93⟩ : ∃ u, A1.tmps.getD 93 undef = u := ⟨_, rfl⟩
  obtain ⟨u94, t94⟩ : ∃ u, A1.tmps.getD 94 undef = u := ⟨_, rfl⟩
  obtain ⟨u95, t95⟩ : ∃ u, A1.tmps.getD 95 undef = u := ⟨_, rfl⟩
  obtain ⟨u96, t96⟩ : ∃ u, A1.tmps.getD 96 undef = u := ⟨_, rfl⟩
  obtain ⟨u97, t97⟩ : ∃ u, A1.tmps.getD 97 undef = u := ⟨_, rfl⟩
  obtain ⟨u98, t98⟩ : ∃ u, A1.tmps.getD 98 undef = u := ⟨_, rfl⟩
  obtain ⟨u99, t99⟩ : ∃ u, A1.tmps.getD 99 undef = u := ⟨_, rfl⟩
  obtain ⟨u100, t100⟩ : ∃ u, A1.tmps.getD 100 undef = u := ⟨_, rfl⟩
  obtain ⟨u101, t101⟩ : ∃ u, A1.tmps.getD 101 undef = u := ⟨_, rfl⟩
  obtain ⟨u102, t102⟩ : ∃ u, A1.tmps.getD 102 undef = u := ⟨_, rfl⟩
  obtain ⟨u103, t103⟩ : ∃ u, A1.tmps.getD 103 undef = u := ⟨_, rfl⟩
  obtain ⟨u104, t104⟩ : ∃ u, A1.tmps.getD 104 undef = u := ⟨_, rfl⟩
  obtain ⟨u105, t105⟩ : ∃ u, A1.tmps.getD 105 undef = u := ⟨_, rfl⟩
  obtain ⟨u106, t106⟩ : ∃ u, A1.tmps.getD 106 undef = u := ⟨_, rfl⟩
  obtain ⟨u107, t107⟩ : ∃ u, A1.tmps.getD 107 undef = u := ⟨_, rfl⟩
  obtain ⟨u108, t108⟩ : ∃ u, A1.tmps.getD 108 undef = u := ⟨_, rfl⟩
  obtain ⟨u109, t109⟩ : ∃ u, A1.tmps.getD 109 undef = u := ⟨_, rfl⟩
  obtain ⟨u110, t110⟩ : ∃ u, A1.tmps.getD 110 undef = u := ⟨_, rfl⟩
  obtain ⟨u111, t111⟩ : ∃ u, A1.tmps.getD 111 undef = u := ⟨_, rfl⟩
  obtain ⟨u112, t112⟩ : ∃ u, A1.tmps.getD 112 undef = u := ⟨_, rfl⟩
  obtain ⟨u113, t113⟩ : ∃ u, A1.tmps.getD 113 undef = u := ⟨_, rfl⟩
  obtain ⟨u114, t114⟩ : ∃ u, A1.tmps.getD 114 undef = u := ⟨_, rfl⟩
  obtain ⟨u115, t115⟩ : ∃ u, A1.tmps.getD 115 undef = u := ⟨_, rfl⟩
  obtain ⟨u116, t116⟩ : ∃ u, A1.tmps.getD 116 undef = u := ⟨_, rfl⟩
  obtain ⟨u117, t117⟩ : ∃ u, A1.tmps.getD 117 undef = u := ⟨_, rfl⟩
  obtain ⟨u118, t118⟩ : ∃ u, A1.tmps.getD 118 undef = u := ⟨_, rfl⟩
  obtain ⟨u119, t119⟩ : ∃ u, A1.tmps.getD 119 undef = u := ⟨_, rfl⟩
  obtain ⟨u120, t120⟩ : ∃ u, A1.tmps.getD 120 undef = u := ⟨_, rfl⟩
  obtain ⟨u121, t121⟩ : ∃ u, A1.tmps.getD 121 undef = u := ⟨_, rfl⟩
  obtain ⟨u122, t122⟩ : ∃ u, A1.tmps.getD 122 undef = u := ⟨_, rfl⟩
  obtain ⟨u123, t123⟩ : ∃ u, A1.tmps.getD 123 undef = u := ⟨_, rfl⟩
  obtain ⟨u124, t124⟩ : ∃ u, A1.tmps.getD 124 undef = u := ⟨_, rfl⟩
  obtain ⟨u125, t125⟩ : ∃ u, A1.tmps.getD 125 undef = u := ⟨_, rfl⟩
  obtain ⟨u126, t126⟩ : ∃ u, A1.tmps.getD 126 undef = u := ⟨_, rfl⟩
  obtain ⟨u127, t127⟩ : ∃ u, A1.tmps.getD 127 undef = u := ⟨_, rfl⟩
  obtain ⟨u128, t128⟩ : ∃ u, A1.tmps.getD 128 undef = u := ⟨_, rfl⟩
  obtain ⟨u129, t129⟩ : ∃ u, A1.tmps.getD 129 undef = u := ⟨_, rfl⟩
  obtain ⟨tm, df⟩ := A1
  simp only at *
  have hLt := arr_litT tm
  rw [hsz] at hLt
  simp only [List.range, List.range.loop, List.map] at hLt
  rw [s0, s1, s2, s3, t4, t5, t6, t7, t8, s9, s10, t11, t12, t13, t14, t15, t16, t17, t18, t19, t20, t21, t22, t23, t24, t25, t26, t27, t28, t29, t30, t31, t32, t33, t34, t35, t36, t37, t38, t39, t40, t41, t42, t43, t44, t45, t46, t47, t48, t49, t50, s51', t52, t53, t54, t55, t56, t57, t58, t59, t60, t61, t62, t63, t64, t65, t66, t67, t68, t69, t70, t71, t72, t73, t74, t75, t76, t77, t78, t79, t80, t81, t82, t83, t84, t85, t86, t87, t88, t89, t90, t91, t92, t93, t94, t95, t96, t97, t98, t99, t100, t101, t102, t103, t104, t105, t106, t107, t108, t109, t110, t111, t112, t113, t114, t115, t116, t117, t118, t119, t120, t121, t122, t123, t124, t125, t126, t127, t128, t129] at hLt
  subst hLt hdf
  clear s0 s1 s2 s3 t4 t5 t6 t7 t8 s9 s10 t11 t12 t13 t14 t15 t16 t17 t18 t19 t20 t21 t22 t23 t24 t25 t26 t27 t28 t29 t30 t31 t32 t33 t34 t35 t36 t37 t38 t39 t40 t41 t42 t43 t44 t45 t46 t47 t48 t49 t50 s51' t52 t53 t54 t55 t56 t57 t58 t59 t60 t61 t62 t63 t64 t65 t66 t67 t68 t69 t70 t71 t72 t73 t74 t75 t76 t77 t78 t79 t80 t81 t82 t83 t84 t85 t86 t87 t88 t89 t90 t91 t92 t93 t94 t95 t96 t97 t98 t99 t100 t101 t102 t103 t104 t105 t106 t107 t108 t109 t110 t111 t112 t113 t114 t115 t116 t117 t118 t119 t120 t121 t122 t123 t124 t125 t126 t127 t128 t129 hsz
  have c1 : w3.cell? ⟨w.heap.size, 1, none⟩ = some (.int .u64 ((x / 18446744073709551616 % 18446744073709551616 : Nat) : Int)) := H3.out.cell 1 _ rfl
  have c2 : w3.cell? ⟨w.heap.size, 2, none⟩ = some (.int .u64 ((x / 340282366920938463463374607431768211456 % 18446744073709551616 : Nat) : Int)) := H3.out.cell 2 _ rfl
  have c3 : w3.cell? ⟨w.heap.size, 3, none⟩ = some (.int .u64 ((x / 6277101735386680763835789423207666416102355444464034512896 % 18446744073709551616 : Nat) : Int)) := H3.out.cell 3 _ rfl
  obtain ⟨x1, hx1⟩ : ∃ x1, x / 18446744073709551616 % 18446744073709551616 = x1 := ⟨_, rfl⟩
  obtain ⟨x2, hx2⟩ : ∃ x2, x / 340282366920938463463374607431768211456 % 18446744073709551616 = x2 := ⟨_, rfl⟩
  obtain ⟨x3, hx3⟩ : ∃ x3, x / 6277101735386680763835789423207666416102355444464034512896 % 18446744073709551616 = x3 := ⟨_, rfl⟩
  rw [hx1] at c1
  rw [hx2] at c2
  rw [hx3] at c3
  have HSX := Lib.hid (show x < 18446744073709551616 ↔ x1 = 0 ∧ x2 = 0 ∧ x3 = 0 from by have := HX.out.1; omega)
  clear hx1 hx2 hx3
  by_cases h1 : x1 = 0
  · by_cases h2 : x2 = 0
    · by_cases h3 : x3 = 0
      · have hlt : x < 18446744073709551616 := HSX.out.2 ⟨h1, h2, h3⟩
        obtain rfl : true = sm := by rw [← HS.out.1]; exact (decide_eq_true hlt).symm
        have HNV := Lib.hid (show nv = x % 18446744073709551616 from by rw [← HS.out.2, if_pos hlt, Nat.mod_eq_of_lt hlt])
        subst h1 h2 h3
        clear hlt HSX HS
        go_wp2_with fail
        refine wp_region_quiet (C := CWt w x n v f []) (by kernel_rfl) (by kernel_rfl) (H3.out.drew) ?_
        simp only
        with_reducible refine q_val (.bool true) (by kernel_rfl) (fun _ _ => by kernel_rfl) ?_
        with_reducible refine q_val (.bool true) (by kernel_rfl) (fun _ _ => by kernel_rfl) ?_
        with_reducible refine q_bin .neq 4 _ _ 4 (.bool true) (.bool true) (.bool false) rfl (by kernel_rfl) (by kernel_rfl) (by kernel_rfl) (fun _ => by kernel_rfl) (fun w' => by kernel_rfl) ?_
        with_reducible refine q_val (.bool false) (by kernel_rfl) (fun _ _ => by kernel_rfl) ?_
        with_reducible refine q_val (.bool true) (by kernel_rfl) (fun _ _ => by kernel_rfl) ?_
        with_reducible refine q_val (.bool true) (by kernel_rfl) (fun _ _ => by kernel_rfl) ?_
        with_reducible refine q_val (.int .u64 ((nv : Nat) : Int)) (by kernel_rfl) (fun _ _ => by kernel_rfl) ?_
        with_reducible refine q_sem2 (Instr.indexAt 24 (.pointer (some ⟨w.heap.size, 0, none⟩)) (.int .i64 0)) (.pointer (some ⟨w.heap.size, 0, none⟩)) (by kernel_rfl) (by kernel_rfl) (fun w' _ => by kernel_rfl) ?_
        with_reducible refine q_load 22 (.tmp 72) (.pointer (some ⟨w.heap.size, 0, none⟩)) (.int .u64 ((x % 18446744073709551616 : Nat) : Int)) rfl (by kernel_rfl) (by kernel_rfl) (fun _ c => load_u64 _ _ _ _ (c.cell 0 _ rfl)) ?_
        with_reducible refine q_bin .neq 22 _ _ 22 (.int .u64 ((nv : Nat) : Int)) (.int .u64 ((x % 18446744073709551616 : Nat) : Int)) (.bool false) rfl (by kernel_rfl) (by kernel_rfl) (by kernel_rfl) (fun _ => by kernel_rfl) (fun w' => by rw [HNV.out]; exact neq_u _ w') ?_
        with_reducible refine q_val (.bool false) (by kernel_rfl) (fun _ _ => by kernel_rfl) ?_
        with_reducible refine q_val (.bool false) (by kernel_rfl) (fun _ _ => by kernel_rfl) ?_
        with_reducible refine q_val (.bool false) (by kernel_rfl) (fun _ _ => by kernel_rfl) ?_
        with_reducible refine q_val (.bool true) (by kernel_rfl) (fun _ _ => by kernel_rfl) ?_
        with_reducible refine q_un4 .not 4 (.tmp 78) (.bool true) (.bool false) rfl (by kernel_rfl) (by kernel_rfl) (fun w' => by kernel_rfl) ?_
        with_reducible refine q_val (.bool false) (by kernel_rfl) (fun _ _ => by kernel_rfl) ?_
        with_reducible refine q_skip (by kernel_rfl) ?_
        with_reducible refine q_skip (by kernel_rfl) ?_
        with_reducible refine q_val (.bool false) (by kernel_rfl) (fun _ _ => by kernel_rfl) ?_
        with_reducible refine q_val (.bool false) (by kernel_rfl) (fun _ _ => by kernel_rfl) ?_
        with_reducible refine q_val (.bool false) (by kernel_rfl) (fun _ _ => by kernel_rfl) ?_
        with_reducible refine q_sem2 (Instr.indexAt 24 (.pointer (some ⟨w.heap.size, 0, none⟩)) (.int .i64 0)) (.pointer (some ⟨w.heap.size, 0, none⟩)) (by kernel_rfl) (by kernel_rfl) (fun w' _ => by kernel_rfl) ?_
        with_reducible refine q_load 22 (.tmp 86) (.pointer (some ⟨w.heap.size, 0, none⟩)) (.int .u64 ((x % 18446744073709551616 : Nat) : Int)) rfl (by kernel_rfl) (by kernel_rfl) (fun _ c => load_u64 _ _ _ _ (c.cell 0 _ rfl)) ?_
        with_reducible refine q_call 11 #[.int .u64 ((x % 18446744073709551616 : Nat) : Int)] (.agg (pw (x % 18446744073709551616))) (by kernel_rfl) (fun _ => by kernel_rfl) (CWt.calls HOF.out) ?_
        with_reducible refine q_sem2 (Instr.indexAt 24 (.pointer (some ⟨w.heap.size, 0, none⟩)) (.int .i64 0)) (.pointer (some ⟨w.heap.size, 0, none⟩)) (by kernel_rfl) (by kernel_rfl) (fun w' _ => by kernel_rfl) ?_
        with_reducible refine q_load 22 (.tmp 89) (.pointer (some ⟨w.heap.size, 0, none⟩)) (.int .u64 ((x % 18446744073709551616 : Nat) : Int)) rfl (by kernel_rfl) (by kernel_rfl) (fun _ c => load_u64 _ _ _ _ (c.cell 0 _ rfl)) ?_
        with_reducible refine q_val (.agg #[.int .u64 ((x % 18446744073709551616 : Nat) : Int), .int .u64 0, .int .u64 0, .int .u64 0]) (by kernel_rfl) (fun _ _ => by kernel_rfl) ?_
        with_reducible refine q_bin .neq 24 _ _ 24 (.agg (pw (x % 18446744073709551616))) (.agg #[.int .u64 ((x % 18446744073709551616 : Nat) : Int), .int .u64 0, .int .u64 0, .int .u64 0]) (.bool false) rfl (by kernel_rfl) (by kernel_rfl) (by kernel_rfl) (fun _ => by kernel_rfl) (fun w' => neq_one x w') ?_
        with_reducible refine q_val (.bool false) (by kernel_rfl) (fun _ _ => by kernel_rfl) ?_
        with_reducible refine wpQuiet_nil ?_
        intro wx hC
        have HC := Lib.hid hC
        clear hC H3
        simp only [Act.put, List.setIfInBounds_toArray, List.set_cons_succ, List.set_cons_zero]
        go_wp2_with fail
        refine (HP1.out _).mono ?_
        rintro e w4 ⟨rfl, hb4⟩
        have H4 := Lib.hid ((HC.out.below hb4).lay (pw z))
        have G4 := Lib.hid (heap_alloc_new w4 (.cells (#[.int .u64 0, .int .u64 0, .int .u64 0, .int .u64 0]) 24))
        clear hb4 HC
        go_upto_region 9 with (refine wpList_store_row rfl 24 _ _ rfl w4.heap.size (pw z) rfl rfl 24 (#[.int .u64 0, .int .u64 0, .int .u64 0, .int .u64 0]) (by exact G4.out) infoWord rfl (pw_one _) ?_)
        obtain ⟨w5, hw5⟩ : ∃ w5, (w4.alloc (.cells (#[.int .u64 0, .int .u64 0, .int .u64 0, .int .u64 0]) 24)).setRow w4.heap.size (pw z) = w5 := ⟨_, rfl⟩
        obtain ⟨g12, hg12⟩ : ∃ g12, w4.heap.size = g12 := ⟨_, rfl⟩
        rw [hw5, hg12] at H4
        rw [hw5, hg12]
        clear hw5 hg12 G4
        go_wp2_with fail
        refine (HP2.out _).mono ?_
        rintro e w6 ⟨rfl, hb6⟩
        have H6 := Lib.hid ((H4.out.below hb6).lay (pw z))
        have G6 := Lib.hid (heap_alloc_new w6 (.cells (#[.int .u64 0, .int .u64 0, .int .u64 0, .int .u64 0]) 24))
        clear hb6 H4
        go_upto_region 10 with (refine wpList_store_row rfl 24 _ _ rfl w6.heap.size (pw z) rfl rfl 24 (#[.int .u64 0, .int .u64 0, .int .u64 0, .int .u64 0]) (by exact G6.out) infoWord rfl (pw_one _) ?_)
        obtain ⟨w7, hw7⟩ : ∃ w7, (w6.alloc (.cells (#[.int .u64 0, .int .u64 0, .int .u64 0, .int .u64 0]) 24)).setRow w6.heap.size (pw z) = w7 := ⟨_, rfl⟩
        obtain ⟨g14, hg14⟩ : ∃ g14, w6.heap.size = g14 := ⟨_, rfl⟩
        rw [hw7, hg14] at H6
        rw [hw7, hg14]
        clear hw7 hg14 G6
        go_wp2_with (refine wpList_ld rfl 24 _ rfl (.pointer (some ⟨w.heap.size, 0, none⟩)) (.agg (pw x)) rfl (ld_pw (by exact H6.out.ra)) ?_)
        refine (HDe.out _ H6.out.tb).mono ?_
        rintro e w8 ⟨rfl, hb8⟩
        have H8 := Lib.hid (H6.out.below hb8)
        clear hb8 H6
        go_wp2_with fail
        refine (HPD.out _).mono ?_
        rintro e w9 ⟨rfl, hb9⟩
        have H9 := Lib.hid ((H8.out.below hb9).lay (pw x))
        have G9 := Lib.hid (heap_alloc_new w9 (.cells (#[.int .u64 0, .int .u64 0, .int .u64 0, .int .u64 0]) 24))
        clear hb9 H8
        go_upto_region 11 with (refine wpList_store_row rfl 24 _ _ rfl w9.heap.size (pw x) rfl rfl 24 (#[.int .u64 0, .int .u64 0, .int .u64 0, .int .u64 0]) (by exact G9.out) infoWord rfl (pw_one _) ?_)
        obtain ⟨w10, hw10⟩ : ∃ w10, (w9.alloc (.cells (#[.int .u64 0, .int .u64 0, .int .u64 0, .int .u64 0]) 24)).setRow w9.heap.size (pw x) = w10 := ⟨_, rfl⟩
        obtain ⟨g16, hg16⟩ : ∃ g16, w9.heap.size = g16 := ⟨_, rfl⟩
        rw [hw10, hg16] at H9
        rw [hw10, hg16]
        clear hw10 hg16 G9
        refine q_region (C := CWt w x n v f [(g16, pw x), (g14, pw z), (g12, pw z)]) H9.out ?_
        with_reducible refine q_load 24 (.tmp 12) (.pointer (some ⟨g12, 0, none⟩)) (.agg (pw z)) rfl (by kernel_rfl) (by kernel_rfl) (fun _ c => ld_pw (c.is _ _ (by simp))) ?_
        with_reducible refine q_load 24 (.tmp 14) (.pointer (some ⟨g14, 0, none⟩)) (.agg (pw z)) rfl (by kernel_rfl) (by kernel_rfl) (fun _ c => ld_pw (c.is _ _ (by simp))) ?_
        with_reducible refine q_bin .eql 24 _ _ 24 (.agg (pw z)) (.agg (pw z)) (.bool true) rfl (by kernel_rfl) (by kernel_rfl) (by kernel_rfl) (fun _ => by kernel_rfl) (fun w' => HEZ.out w') ?_
        with_reducible refine q_val (.bool true) (by kernel_rfl) (fun _ _ => by kernel_rfl) ?_
        with_reducible refine q_val (.int .i64 qn) (by kernel_rfl) (fun _ _ => by kernel_rfl) ?_
        with_reducible refine q_val (.int .i64 qn) (by kernel_rfl) (fun _ _ => by kernel_rfl) ?_
        with_reducible refine q_bin .eql 33 _ _ 33 (.int .i64 qn) (.int .i64 qn) (.bool true) rfl (by kernel_rfl) (by kernel_rfl) (by kernel_rfl) (fun _ => by kernel_rfl) (fun w' => eql_en qn w') ?_
        with_reducible refine q_val (.bool true) (by kernel_rfl) (fun _ _ => by kernel_rfl) ?_
        with_reducible refine q_val (.bool true) (by kernel_rfl) (fun _ _ => by kernel_rfl) ?_
        with_reducible refine q_load 24 (.tmp 16) (.pointer (some ⟨g16, 0, none⟩)) (.agg (pw x)) rfl (by kernel_rfl) (by kernel_rfl) (fun _ c => ld_pw (c.is _ _ (by simp))) ?_
        with_reducible refine q_load 24 (.tmp 3) (.pointer (some ⟨w.heap.size, 0, none⟩)) (.agg (pw x)) rfl (by kernel_rfl) (by kernel_rfl) (fun _ c => ld_pw c.ra) ?_
        with_reducible refine q_bin .eql 24 _ _ 24 (.agg (pw x)) (.agg (pw x)) (.bool true) rfl (by kernel_rfl) (by kernel_rfl) (by kernel_rfl) (fun _ => by kernel_rfl) (fun w' => HEX.out w') ?_
        with_reducible refine q_val (.bool true) (by kernel_rfl) (fun _ _ => by kernel_rfl) ?_
        with_reducible refine q_val (.bool true) (by kernel_rfl) (fun _ _ => by kernel_rfl) ?_
        with_reducible refine q_val (.int .i64 0) (by kernel_rfl) (fun _ _ => by kernel_rfl) ?_
        with_reducible refine q_bin .eql 33 _ _ 33 (.int .i64 0) (.int .i64 0) (.bool true) rfl (by kernel_rfl) (by kernel_rfl) (by kernel_rfl) (fun _ => by kernel_rfl) (fun w' => by kernel_rfl) ?_
        with_reducible refine q_val (.bool true) (by kernel_rfl) (fun _ _ => by kernel_rfl) ?_
        with_reducible refine q_val (.bool true) (by kernel_rfl) (fun _ _ => by kernel_rfl) ?_
        with_reducible refine q_call 14 #[] (.bool true) (by kernel_rfl) (fun _ => by kernel_rfl) (CWt.calls HLV.out) ?_
        with_reducible refine q_val (.bool true) (by kernel_rfl) (fun _ _ => by kernel_rfl) ?_
        with_reducible refine q_val (.bool true) (by kernel_rfl) (fun _ _ => by kernel_rfl) ?_
        with_reducible refine wpQuiet_nil ?_
        intro wx hC
        have HZZ := Lib.hid hC
        clear hC H9
        simp only [Act.put, List.setIfInBounds_toArray, List.set_cons_succ, List.set_cons_zero]
        go_wp2_with fail
        go_ret
        exact ⟨rfl, HZZ.out.old⟩
      · have hge : ¬ x < 18446744073709551616 := fun h => h3 (HSX.out.1 h).2.2
        obtain rfl : false = sm := by rw [← HS.out.1]; exact (decide_eq_false hge).symm
        obtain rfl : 0 = nv := by rw [← HS.out.2, if_neg hge]
        have h3' : ((x3 : Int) == 0) = false := by rw [beq_eq_false_iff_ne]; omega
        subst h1 h2
        clear hge HSX HS
        go_wp2_with fail
        refine wp_region_quiet (C := CWt w x n v f []) (by kernel_rfl) (by kernel_rfl) (H3.out.drew) ?_
        simp only
        with_reducible refine q_val (.bool false) (by kernel_rfl) (fun _ _ => by kernel_rfl) ?_
        with_reducible refine q_val (.bool false) (by kernel_rfl) (fun _ _ => by kernel_rfl) ?_
        with_reducible refine q_bin .neq 4 _ _ 4 (.bool false) (.bool false) (.bool false) rfl (by kernel_rfl) (by kernel_rfl) (by kernel_rfl) (fun _ => by kernel_rfl) (fun w' => by kernel_rfl) ?_
        with_reducible refine q_val (.bool false) (by kernel_rfl) (fun _ _ => by kernel_rfl) ?_
        with_reducible refine q_val (.bool false) (by kernel_rfl) (fun _ _ => by kernel_rfl) ?_
        with_reducible refine q_val (.bool false) (by kernel_rfl) (fun _ _ => by kernel_rfl) ?_
        with_reducible refine q_skip (by kernel_rfl) ?_
        with_reducible refine q_skip (by kernel_rfl) ?_
        with_reducible refine q_skip (by kernel_rfl) ?_
        with_reducible refine q_skip (by kernel_rfl) ?_
        with_reducible refine q_val (.bool false) (by kernel_rfl) (fun _ _ => by kernel_rfl) ?_
        with_reducible refine q_val (.bool false) (by kernel_rfl) (fun _ _ => by kernel_rfl) ?_
        with_reducible refine q_val (.bool false) (by kernel_rfl) (fun _ _ => by kernel_rfl) ?_
        with_reducible refine q_val (.bool false) (by kernel_rfl) (fun _ _ => by kernel_rfl) ?_
        with_reducible refine q_un4 .not 4 (.tmp 78) (.bool false) (.bool true) rfl (by kernel_rfl) (by kernel_rfl) (fun w' => by kernel_rfl) ?_
        with_reducible refine q_val (.bool true) (by kernel_rfl) (fun _ _ => by kernel_rfl) ?_
        with_reducible refine q_val (.int .u64 ((0 : Nat) : Int)) (by kernel_rfl) (fun _ _ => by kernel_rfl) ?_
        with_reducible refine q_bin .neq 22 _ _ 22 (.int .u64 ((0 : Nat) : Int)) (.int .u64 0) (.bool false) rfl (by kernel_rfl) (by kernel_rfl) (by kernel_rfl) (fun _ => by kernel_rfl) (fun w' => by kernel_rfl) ?_
        with_reducible refine q_val (.bool false) (by kernel_rfl) (fun _ _ => by kernel_rfl) ?_
        with_reducible refine q_val (.bool false) (by kernel_rfl) (fun _ _ => by kernel_rfl) ?_
        with_reducible refine q_val (.bool false) (by kernel_rfl) (fun _ _ => by kernel_rfl) ?_
        with_reducible refine q_sem2 (Instr.indexAt 24 (.pointer (some ⟨w.heap.size, 0, none⟩)) (.int .i64 0)) (.pointer (some ⟨w.heap.size, 0, none⟩)) (by kernel_rfl) (by kernel_rfl) (fun w' _ => by kernel_rfl) ?_
        with_reducible refine q_load 22 (.tmp 86) (.pointer (some ⟨w.heap.size, 0, none⟩)) (.int .u64 ((x % 18446744073709551616 : Nat) : Int)) rfl (by kernel_rfl) (by kernel_rfl) (fun _ c => load_u64 _ _ _ _ (c.cell 0 _ rfl)) ?_
        with_reducible refine q_call 11 #[.int .u64 ((x % 18446744073709551616 : Nat) : Int)] (.agg (pw (x % 18446744073709551616))) (by kernel_rfl) (fun _ => by kernel_rfl) (CWt.calls HOF.out) ?_
        with_reducible refine q_sem2 (Instr.indexAt 24 (.pointer (some ⟨w.heap.size, 0, none⟩)) (.int .i64 0)) (.pointer (some ⟨w.heap.size, 0, none⟩)) (by kernel_rfl) (by kernel_rfl) (fun w' _ => by kernel_rfl) ?_
        with_reducible refine q_load 22 (.tmp 89) (.pointer (some ⟨w.heap.size, 0, none⟩)) (.int .u64 ((x % 18446744073709551616 : Nat) : Int)) rfl (by kernel_rfl) (by kernel_rfl) (fun _ c => load_u64 _ _ _ _ (c.cell 0 _ rfl)) ?_
        with_reducible refine q_val (.agg #[.int .u64 ((x % 18446744073709551616 : Nat) : Int), .int .u64 0, .int .u64 0, .int .u64 0]) (by kernel_rfl) (fun _ _ => by kernel_rfl) ?_
        with_reducible refine q_bin .neq 24 _ _ 24 (.agg (pw (x % 18446744073709551616))) (.agg #[.int .u64 ((x % 18446744073709551616 : Nat) : Int), .int .u64 0, .int .u64 0, .int .u64 0]) (.bool false) rfl (by kernel_rfl) (by kernel_rfl) (by kernel_rfl) (fun _ => by kernel_rfl) (fun w' => neq_one x w') ?_
        with_reducible refine q_val (.bool false) (by kernel_rfl) (fun _ _ => by kernel_rfl) ?_
        with_reducible refine wpQuiet_nil ?_
        intro wx hC
        have HC := Lib.hid hC
        clear hC H3
        simp only [Act.put, List.setIfInBounds_toArray, List.set_cons_succ, List.set_cons_zero]
        go_wp2_with fail
        refine (HP1.out _).mono ?_
        rintro e w4 ⟨rfl, hb4⟩
        have H4 := Lib.hid ((HC.out.below hb4).lay (pw z))
        have G4 := Lib.hid (heap_alloc_new w4 (.cells (#[.int .u64 0, .int .u64 0, .int .u64 0, .int .u64 0]) 24))
        clear hb4 HC
        go_upto_region 9 with (refine wpList_store_row rfl 24 _ _ rfl w4.heap.size (pw z) rfl rfl 24 (#[.int .u64 0, .int .u64 0, .int .u64 0, .int .u64 0]) (by exact G4.out) infoWord rfl (pw_one _) ?_)
        obtain ⟨w5, hw5⟩ : ∃ w5, (w4.alloc (.cells (#[.int .u64 0, .int .u64 0, .int .u64 0, .int .u64 0]) 24)).setRow w4.heap.size (pw z) = w5 := ⟨_, rfl⟩
        obtain ⟨g12, hg12⟩ : ∃ g12, w4.heap.size = g12 := ⟨_, rfl⟩
        rw [hw5, hg12] at H4
        rw [hw5, hg12]
        clear hw5 hg12 G4
        go_wp2_with fail
        refine (HP2.out _).mono ?_
        rintro e w6 ⟨rfl, hb6⟩
        have H6 := Lib.hid ((H4.out.below hb6).lay (pw z))
        have G6 := Lib.hid (heap_alloc_new w6 (.cells (#[.int .u64 0, .int .u64 0, .int .u64 0, .int .u64 0]) 24))
        clear hb6 H4
        go_upto_region 10 with (refine wpList_store_row rfl 24 _ _ rfl w6.heap.size (pw z) rfl rfl 24 (#[.int .u64 0, .int .u64 0, .int .u64 0, .int .u64 0]) (by exact G6.out) infoWord rfl (pw_one _) ?_)
        obtain ⟨w7, hw7⟩ : ∃ w7, (w6.alloc (.cells (#[.int .u64 0, .int .u64 0, .int .u64 0, .int .u64 0]) 24)).setRow w6.heap.size (pw z) = w7 := ⟨_, rfl⟩
        obtain ⟨g14, hg14⟩ : ∃ g14, w6.heap.size = g14 := ⟨_, rfl⟩
        rw [hw7, hg14] at H6
        rw [hw7, hg14]
        clear hw7 hg14 G6
        go_wp2_with (refine wpList_ld rfl 24 _ rfl (.pointer (some ⟨w.heap.size, 0, none⟩)) (.agg (pw x)) rfl (ld_pw (by exact H6.out.ra)) ?_)
        refine (HDe.out _ H6.out.tb).mono ?_
        rintro e w8 ⟨rfl, hb8⟩
        have H8 := Lib.hid (H6.out.below hb8)
        clear hb8 H6
        go_wp2_with fail
        refine (HPD.out _).mono ?_
        rintro e w9 ⟨rfl, hb9⟩
        have H9 := Lib.hid ((H8.out.below hb9).lay (pw x))
        have G9 := Lib.hid (heap_alloc_new w9 (.cells (#[.int .u64 0, .int .u64 0, .int .u64 0, .int .u64 0]) 24))
        clear hb9 H8
        go_upto_region 11 with (refine wpList_store_row rfl 24 _ _ rfl w9.heap.size (pw x) rfl rfl 24 (#[.int .u64 0, .int .u64 0, .int .u64 0, .int .u64 0]) (by exact G9.out) infoWord rfl (pw_one _) ?_)
        obtain ⟨w10, hw10⟩ : ∃ w10, (w9.alloc (.cells (#[.int .u64 0, .int .u64 0, .int .u64 0, .int .u64 0]) 24)).setRow w9.heap.size (pw x) = w10 := ⟨_, rfl⟩
        obtain ⟨g16, hg16⟩ : ∃ g16, w9.heap.size = g16 := ⟨_, rfl⟩
        rw [hw10, hg16] at H9
        rw [hw10, hg16]
        clear hw10 hg16 G9
        refine q_region (C := CWt w x n v f [(g16, pw x), (g14, pw z), (g12, pw z)]) H9.out ?_
        with_reducible refine q_load 24 (.tmp 12) (.pointer (some ⟨g12, 0, none⟩)) (.agg (pw z)) rfl (by kernel_rfl) (by kernel_rfl) (fun _ c => ld_pw (c.is _ _ (by simp))) ?_
        with_reducible refine q_load 24 (.tmp 14) (.pointer (some ⟨g14, 0, none⟩)) (.agg (pw z)) rfl (by kernel_rfl) (by kernel_rfl) (fun _ c => ld_pw (c.is _ _ (by simp))) ?_
        with_reducible refine q_bin .eql 24 _ _ 24 (.agg (pw z)) (.agg (pw z)) (.bool true) rfl (by kernel_rfl) (by kernel_rfl) (by kernel_rfl) (fun _ => by kernel_rfl) (fun w' => HEZ.out w') ?_
        with_reducible refine q_val (.bool true) (by kernel_rfl) (fun _ _ => by kernel_rfl) ?_
        with_reducible refine q_val (.int .i64 qn) (by kernel_rfl) (fun _ _ => by kernel_rfl) ?_
        with_reducible refine q_val (.int .i64 qn) (by kernel_rfl) (fun _ _ => by kernel_rfl) ?_
        with_reducible refine q_bin .eql 33 _ _ 33 (.int .i64 qn) (.int .i64 qn) (.bool true) rfl (by kernel_rfl) (by kernel_rfl) (by kernel_rfl) (fun _ => by kernel_rfl) (fun w' => eql_en qn w') ?_
        with_reducible refine q_val (.bool true) (by kernel_rfl) (fun _ _ => by kernel_rfl) ?_
        with_reducible refine q_val (.bool true) (by kernel_rfl) (fun _ _ => by kernel_rfl) ?_
        with_reducible refine q_load 24 (.tmp 16) (.pointer (some ⟨g16, 0, none⟩)) (.agg (pw x)) rfl (by kernel_rfl) (by kernel_rfl) (fun _ c => ld_pw (c.is _ _ (by simp))) ?_
        with_reducible refine q_load 24 (.tmp 3) (.pointer (some ⟨w.heap.size, 0, none⟩)) (.agg (pw x)) rfl (by kernel_rfl) (by kernel_rfl) (fun _ c => ld_pw c.ra) ?_
        with_reducible refine q_bin .eql 24 _ _ 24 (.agg (pw x)) (.agg (pw x)) (.bool true) rfl (by kernel_rfl) (by kernel_rfl) (by kernel_rfl) (fun _ => by kernel_rfl) (fun w' => HEX.out w') ?_
        with_reducible refine q_val (.bool true) (by kernel_rfl) (fun _ _ => by kernel_rfl) ?_
        with_reducible refine q_val (.bool true) (by kernel_rfl) (fun _ _ => by kernel_rfl) ?_
        with_reducible refine q_val (.int .i64 0) (by kernel_rfl) (fun _ _ => by kernel_rfl) ?_
        with_reducible refine q_bin .eql 33 _ _ 33 (.int .i64 0) (.int .i64 0) (.bool true) rfl (by kernel_rfl) (by kernel_rfl) (by kernel_rfl) (fun _ => by kernel_rfl) (fun w' => by kernel_rfl) ?_
        with_reducible refine q_val (.bool true) (by kernel_rfl) (fun _ _ => by kernel_rfl) ?_
        with_reducible refine q_val (.bool true) (by kernel_rfl) (fun _ _ => by kernel_rfl) ?_
        with_reducible refine q_call 14 #[] (.bool true) (by kernel_rfl) (fun _ => by kernel_rfl) (CWt.calls HLV.out) ?_
        with_reducible refine q_val (.bool true) (by kernel_rfl) (fun _ _ => by kernel_rfl) ?_
        with_reducible refine q_val (.bool true) (by kernel_rfl) (fun _ _ => by kernel_rfl) ?_
        with_reducible refine wpQuiet_nil ?_
        intro wx hC
        have HZZ := Lib.hid hC
        clear hC H9
        simp only [Act.put, List.setIfInBounds_toArray, List.set_cons_succ, List.set_cons_zero]
        go_wp2_with fail
        go_ret
        exact ⟨rfl, HZZ.out.old⟩
    · have hge : ¬ x < 18446744073709551616 := fun h => h2 (HSX.out.1 h).2.1
      obtain rfl : false = sm := by rw [← HS.out.1]; exact (decide_eq_false hge).symm
      obtain rfl : 0 = nv := by rw [← HS.out.2, if_neg hge]
      have h2' : ((x2 : Int) == 0) = false := by rw [beq_eq_false_iff_ne]; omega
      subst h1
      clear hge HSX HS
      go_wp2_with fail
      refine wp_region_quiet (C := CWt w x n v f []) (by kernel_rfl) (by kernel_rfl) (H3.out.drew) ?_
      simp only
      with_reducible refine q_val (.bool false) (by kernel_rfl) (fun _ _ => by kernel_rfl) ?_
      with_reducible refine q_val (.bool false) (by kernel_rfl) (fun _ _ => by kernel_rfl) ?_
      with_reducible refine q_bin .neq 4 _ _ 4 (.bool false) (.bool false) (.bool false) rfl (by kernel_rfl) (by kernel_rfl) (by kernel_rfl) (fun _ => by kernel_rfl) (fun w' => by kernel_rfl) ?_
      with_reducible refine q_val (.bool false) (by kernel_rfl) (fun _ _ => by kernel_rfl) ?_
      with_reducible refine q_val (.bool false) (by kernel_rfl) (fun _ _ => by kernel_rfl) ?_
      with_reducible refine q_val (.bool false) (by kernel_rfl) (fun _ _ => by kernel_rfl) ?_
      with_reducible refine q_skip (by kernel_rfl) ?_
      with_reducible refine q_skip (by kernel_rfl) ?_
      with_reducible refine q_skip (by kernel_rfl) ?_
      with_reducible refine q_skip (by kernel_rfl) ?_
      with_reducible refine q_val (.bool false) (by kernel_rfl) (fun _ _ => by kernel_rfl) ?_
      with_reducible refine q_val (.bool false) (by kernel_rfl) (fun _ _ => by kernel_rfl) ?_
      with_reducible refine q_val (.bool false) (by kernel_rfl) (fun _ _ => by kernel_rfl) ?_
      with_reducible refine q_val (.bool false) (by kernel_rfl) (fun _ _ => by kernel_rfl) ?_
      with_reducible refine q_un4 .not 4 (.tmp 78) (.bool false) (.bool true) rfl (by kernel_rfl) (by kernel_rfl) (fun w' => by kernel_rfl) ?_
      with_reducible refine q_val (.bool true) (by kernel_rfl) (fun _ _ => by kernel_rfl) ?_
      with_reducible refine q_val (.int .u64 ((0 : Nat) : Int)) (by kernel_rfl) (fun _ _ => by kernel_rfl) ?_
      with_reducible refine q_bin .neq 22 _ _ 22 (.int .u64 ((0 : Nat) : Int)) (.int .u64 0) (.bool false) rfl (by kernel_rfl) (by kernel_rfl) (by kernel_rfl) (fun _ => by kernel_rfl) (fun w' => by kernel_rfl) ?_
      with_reducible refine q_val (.bool false) (by kernel_rfl) (fun _ _ => by kernel_rfl) ?_
      with_reducible refine q_val (.bool false) (by kernel_rfl) (fun _ _ => by kernel_rfl) ?_
      with_reducible refine q_val (.bool false) (by kernel_rfl) (fun _ _ => by kernel_rfl) ?_
      with_reducible refine q_sem2 (Instr.indexAt 24 (.pointer (some ⟨w.heap.size, 0, none⟩)) (.int .i64 0)) (.pointer (some ⟨w.heap.size, 0, none⟩)) (by kernel_rfl) (by kernel_rfl) (fun w' _ => by kernel_rfl) ?_
      with_reducible refine q_load 22 (.tmp 86) (.pointer (some ⟨w.heap.size, 0, none⟩)) (.int .u64 ((x % 18446744073709551616 : Nat) : Int)) rfl (by kernel_rfl) (by kernel_rfl) (fun _ c => load_u64 _ _ _ _ (c.cell 0 _ rfl)) ?_
      with_reducible refine q_call 11 #[.int .u64 ((x % 18446744073709551616 : Nat) : Int)] (.agg (pw (x % 18446744073709551616))) (by kernel_rfl) (fun _ => by kernel_rfl) (CWt.calls HOF.out) ?_
      with_reducible refine q_sem2 (Instr.indexAt 24 (.pointer (some ⟨w.heap.size, 0, none⟩)) (.int .i64 0)) (.pointer (some ⟨w.heap.size, 0, none⟩)) (by kernel_rfl) (by kernel_rfl) (fun w' _ => by kernel_rfl) ?_
      with_reducible refine q_load 22 (.tmp 89) (.pointer (some ⟨w.heap.size, 0, none⟩)) (.int .u64 ((x % 18446744073709551616 : Nat) : Int)) rfl (by kernel_rfl) (by kernel_rfl) (fun _ c => load_u64 _ _ _ _ (c.cell 0 _ rfl)) ?_
      with_reducible refine q_val (.agg #[.int .u64 ((x % 18446744073709551616 : Nat) : Int), .int .u64 0, .int .u64 0, .int .u64 0]) (by kernel_rfl) (fun _ _ => by kernel_rfl) ?_
      with_reducible refine q_bin .neq 24 _ _ 24 (.agg (pw (x % 18446744073709551616))) (.agg #[.int .u64 ((x % 18446744073709551616 : Nat) : Int), .int .u64 0, .int .u64 0, .int .u64 0]) (.bool false) rfl (by kernel_rfl) (by kernel_rfl) (by kernel_rfl) (fun _ => by kernel_rfl) (fun w' => neq_one x w') ?_
      with_reducible refine q_val (.bool false) (by kernel_rfl) (fun _ _ => by kernel_rfl) ?_
      with_reducible refine wpQuiet_nil ?_
      intro wx hC
      have HC := Lib.hid hC
      clear hC H3
      simp only [Act.put, List.setIfInBounds_toArray, List.set_cons_succ, List.set_cons_zero]
      go_wp2_with fail
      refine (HP1.out _).mono ?_
      rintro e w4 ⟨rfl, hb4⟩
      have H4 := Lib.hid ((HC.out.below hb4).lay (pw z))
      have G4 := Lib.hid (heap_alloc_new w4 (.cells (#[.int .u64 0, .int .u64 0, .int .u64 0, .int .u64 0]) 24))
      clear hb4 HC
      go_upto_region 9 with (refine wpList_store_row rfl 24 _ _ rfl w4.heap.size (pw z) rfl rfl 24 (#[.int .u64 0, .int .u64 0, .int .u64 0, .int .u64 0]) (by exact G4.out) infoWord rfl (pw_one _) ?_)
      obtain ⟨w5, hw5⟩ : ∃ w5, (w4.alloc (.cells (#[.int .u64 0, .int .u64 0, .int .u64 0, .int .u64 0]) 24)).setRow w4.heap.size (pw z) = w5 := ⟨_, rfl⟩
      obtain ⟨g12, hg12⟩ : ∃ g12, w4.heap.size = g12 := ⟨_, rfl⟩
      rw [hw5, hg12] at H4
      rw [hw5, hg12]
      clear hw5 hg12 G4
      go_wp2_with fail
      refine (HP2.out _).mono ?_
      rintro e w6 ⟨rfl, hb6⟩
      have H6 := Lib.hid ((H4.out.below hb6).lay (pw z))
      have G6 := Lib.hid (heap_alloc_new w6 (.cells (#[.int .u64 0, .int .u64 0, .int .u64 0, .int .u64 0]) 24))
      clear hb6 H4
      go_upto_region 10 with (refine wpList_store_row rfl 24 _ _ rfl w6.heap.size (pw z) rfl rfl 24 (#[.int .u64 0, .int .u64 0, .int .u64 0, .int .u64 0]) (by exact G6.out) infoWord rfl (pw_one _) ?_)
      obtain ⟨w7, hw7⟩ : ∃ w7, (w6.alloc (.cells (#[.int .u64 0, .int .u64 0, .int .u64 0, .int .u64 0]) 24)).setRow w6.heap.size (pw z) = w7 := ⟨_, rfl⟩
      obtain ⟨g14, hg14⟩ : ∃ g14, w6.heap.size = g14 := ⟨_, rfl⟩
      rw [hw7, hg14] at H6
      rw [hw7, hg14]
      clear hw7 hg14 G6
      go_wp2_with (refine wpList_ld rfl 24 _ rfl (.pointer (some ⟨w.heap.size, 0, none⟩)) (.agg (pw x)) rfl (ld_pw (by exact H6.out.ra)) ?_)
      refine (HDe.out _ H6.out.tb).mono ?_
      rintro e w8 ⟨rfl, hb8⟩
      have H8 := Lib.hid (H6.out.below hb8)
      clear hb8 H6
      go_wp2_with fail
      refine (HPD.out _).mono ?_
      rintro e w9 ⟨rfl, hb9⟩
      have H9 := Lib.hid ((H8.out.below hb9).lay (pw x))
      have G9 := Lib.hid (heap_alloc_new w9 (.cells (#[.int .u64 0, .int .u64 0, .int .u64 0, .int .u64 0]) 24))
      clear hb9 H8
      go_upto_region 11 with (refine wpList_store_row rfl 24 _ _ rfl w9.heap.size (pw x) rfl rfl 24 (#[.int .u64 0, .int .u64 0, .int .u64 0, .int .u64 0]) (by exact G9.out) infoWord rfl (pw_one _) ?_)
      obtain ⟨w10, hw10⟩ : ∃ w10, (w9.alloc (.cells (#[.int .u64 0, .int .u64 0, .int .u64 0, .int .u64 0]) 24)).setRow w9.heap.size (pw x) = w10 := ⟨_, rfl⟩
      obtain ⟨g16, hg16⟩ : ∃ g16, w9.heap.size = g16 := ⟨_, rfl⟩
      rw [hw10, hg16] at H9
      rw [hw10, hg16]
      clear hw10 hg16 G9
      refine q_region (C := CWt w x n v f [(g16, pw x), (g14, pw z), (g12, pw z)]) H9.out ?_
      with_reducible refine q_load 24 (.tmp 12) (.pointer (some ⟨g12, 0, none⟩)) (.agg (pw z)) rfl (by kernel_rfl) (by kernel_rfl) (fun _ c => ld_pw (c.is _ _ (by simp))) ?_
      with_reducible refine q_load 24 (.tmp 14) (.pointer (some ⟨g14, 0, none⟩)) (.agg (pw z)) rfl (by kernel_rfl) (by kernel_rfl) (fun _ c => ld_pw (c.is _ _ (by simp))) ?_
      with_reducible refine q_bin .eql 24 _ _ 24 (.agg (pw z)) (.agg (pw z)) (.bool true) rfl (by kernel_rfl) (by kernel_rfl) (by kernel_rfl) (fun _ => by kernel_rfl) (fun w' => HEZ.out w') ?_
      with_reducible refine q_val (.bool true) (by kernel_rfl) (fun _ _ => by kernel_rfl) ?_
      with_reducible refine q_val (.int .i64 qn) (by kernel_rfl) (fun _ _ => by kernel_rfl) ?_
      with_reducible refine q_val (.int .i64 qn) (by kernel_rfl) (fun _ _ => by kernel_rfl) ?_
      with_reducible refine q_bin .eql 33 _ _ 33 (.int .i64 qn) (.int .i64 qn) (.bool true) rfl (by kernel_rfl) (by kernel_rfl) (by kernel_rfl) (fun _ => by kernel_rfl) (fun w' => eql_en qn w') ?_
      with_reducible refine q_val (.bool true) (by kernel_rfl) (fun _ _ => by kernel_rfl) ?_
      with_reducible refine q_val (.bool true) (by kernel_rfl) (fun _ _ => by kernel_rfl) ?_
      with_reducible refine q_load 24 (.tmp 16) (.pointer (some ⟨g16, 0, none⟩)) (.agg (pw x)) rfl (by kernel_rfl) (by kernel_rfl) (fun _ c => ld_pw (c.is _ _ (by simp))) ?_
      with_reducible refine q_load 24 (.tmp 3) (.pointer (some ⟨w.heap.size, 0, none⟩)) (.agg (pw x)) rfl (by kernel_rfl) (by kernel_rfl) (fun _ c => ld_pw c.ra) ?_
      with_reducible refine q_bin .eql 24 _ _ 24 (.agg (pw x)) (.agg (pw x)) (.bool true) rfl (by kernel_rfl) (by kernel_rfl) (by kernel_rfl) (fun _ => by kernel_rfl) (fun w' => HEX.out w') ?_
      with_reducible refine q_val (.bool true) (by kernel_rfl) (fun _ _ => by kernel_rfl) ?_
      with_reducible refine q_val (.bool true) (by kernel_rfl) (fun _ _ => by kernel_rfl) ?_
      with_reducible refine q_val (.int .i64 0) (by kernel_rfl) (fun _ _ => by kernel_rfl) ?_
      with_reducible refine q_bin .eql 33 _ _ 33 (.int .i64 0) (.int .i64 0) (.bool true) rfl (by kernel_rfl) (by kernel_rfl) (by kernel_rfl) (fun _ => by kernel_rfl) (fun w' => by kernel_rfl) ?_
      with_reducible refine q_val (.bool true) (by kernel_rfl) (fun _ _ => by kernel_rfl) ?_
      with_reducible refine q_val (.bool true) (by kernel_rfl) (fun _ _ => by kernel_rfl) ?_
      with_reducible refine q_call 14 #[] (.bool true) (by kernel_rfl) (fun _ => by kernel_rfl) (CWt.calls HLV.out) ?_
      with_reducible refine q_val (.bool true) (by kernel_rfl) (fun _ _ => by kernel_rfl) ?_
      with_reducible refine q_val (.bool true) (by kernel_rfl) (fun _ _ => by kernel_rfl) ?_
      with_reducible refine wpQuiet_nil ?_
      intro wx hC
      have HZZ := Lib.hid hC
      clear hC H9
      simp only [Act.put, List.setIfInBounds_toArray, List.set_cons_succ, List.set_cons_zero]
      go_wp2_with fail
      go_ret
      exact ⟨rfl, HZZ.out.old⟩
  · have hge : ¬ x < 18446744073709551616 := fun h => h1 (HSX.out.1 h).1
    obtain rfl : false = sm := by rw [← HS.out.1]; exact (decide_eq_false hge).symm
    obtain rfl : 0 = nv := by rw [← HS.out.2, if_neg hge]
    have h1' : ((x1 : Int) == 0) = false := by rw [beq_eq_false_iff_ne]; omega
    clear hge HSX HS
    go_wp2_with fail
    refine wp_region_quiet (C := CWt w x n v f []) (by kernel_rfl) (by kernel_rfl) (H3.out.drew) ?_
    simp only
    with_reducible refine q_val (.bool false) (by kernel_rfl) (fun _ _ => by kernel_rfl) ?_
    with_reducible refine q_val (.bool false) (by kernel_rfl) (fun _ _ => by kernel_rfl) ?_
    with_reducible refine q_bin .neq 4 _ _ 4 (.bool false) (.bool false) (.bool false) rfl (by kernel_rfl) (by kernel_rfl) (by kernel_rfl) (fun _ => by kernel_rfl) (fun w' => by kernel_rfl) ?_
    with_reducible refine q_val (.bool false) (by kernel_rfl) (fun _ _ => by kernel_rfl) ?_
    with_reducible refine q_val (.bool false) (by kernel_rfl) (fun _ _ => by kernel_rfl) ?_
    with_reducible refine q_val (.bool false) (by kernel_rfl) (fun _ _ => by kernel_rfl) ?_
    with_reducible refine q_skip (by kernel_rfl) ?_
    with_reducible refine q_skip (by kernel_rfl) ?_
    with_reducible refine q_skip (by kernel_rfl) ?_
    with_reducible refine q_skip (by kernel_rfl) ?_
    with_reducible refine q_val (.bool false) (by kernel_rfl) (fun _ _ => by kernel_rfl) ?_
    with_reducible refine q_val (.bool false) (by kernel_rfl) (fun _ _ => by kernel_rfl) ?_
    with_reducible refine q_val (.bool false) (by kernel_rfl) (fun _ _ => by kernel_rfl) ?_
    with_reducible refine q_val (.bool false) (by kernel_rfl) (fun _ _ => by kernel_rfl) ?_
    with_reducible refine q_un4 .not 4 (.tmp 78) (.bool false) (.bool true) rfl (by kernel_rfl) (by kernel_rfl) (fun w' => by kernel_rfl) ?_
    with_reducible refine q_val (.bool true) (by kernel_rfl) (fun _ _ => by kernel_rfl) ?_
    with_reducible refine q_val (.int .u64 ((0 : Nat) : Int)) (by kernel_rfl) (fun _ _ => by kernel_rfl) ?_
    with_reducible refine q_bin .neq 22 _ _ 22 (.int .u64 ((0 : Nat) : Int)) (.int .u64 0) (.bool false) rfl (by kernel_rfl) (by kernel_rfl) (by kernel_rfl) (fun _ => by kernel_rfl) (fun w' => by kernel_rfl) ?_
    with_reducible refine q_val (.bool false) (by kernel_rfl) (fun _ _ => by kernel_rfl) ?_
    with_reducible refine q_val (.bool false) (by kernel_rfl) (fun _ _ => by kernel_rfl) ?_
    with_reducible refine q_val (.bool false) (by kernel_rfl) (fun _ _ => by kernel_rfl) ?_
    with_reducible refine q_sem2 (Instr.indexAt 24 (.pointer (some ⟨w.heap.size, 0, none⟩)) (.int .i64 0)) (.pointer (some ⟨w.heap.size, 0, none⟩)) (by kernel_rfl) (by kernel_rfl) (fun w' _ => by kernel_rfl) ?_
    with_reducible refine q_load 22 (.tmp 86) (.pointer (some ⟨w.heap.size, 0, none⟩)) (.int .u64 ((x % 18446744073709551616 : Nat) : Int)) rfl (by kernel_rfl) (by kernel_rfl) (fun _ c => load_u64 _ _ _ _ (c.cell 0 _ rfl)) ?_
    with_reducible refine q_call 11 #[.int .u64 ((x % 18446744073709551616 : Nat) : Int)] (.agg (pw (x % 18446744073709551616))) (by kernel_rfl) (fun _ => by kernel_rfl) (CWt.calls HOF.out) ?_
    with_reducible refine q_sem2 (Instr.indexAt 24 (.pointer (some ⟨w.heap.size, 0, none⟩)) (.int .i64 0)) (.pointer (some ⟨w.heap.size, 0, none⟩)) (by kernel_rfl) (by kernel_rfl) (fun w' _ => by kernel_rfl) ?_
    with_reducible refine q_load 22 (.tmp 89) (.pointer (some ⟨w.heap.size, 0, none⟩)) (.int .u64 ((x % 18446744073709551616 : Nat) : Int)) rfl (by kernel_rfl) (by kernel_rfl) (fun _ c => load_u64 _ _ _ _ (c.cell 0 _ rfl)) ?_
    with_reducible refine q_val (.agg #[.int .u64 ((x % 18446744073709551616 : Nat) : Int), .int .u64 0, .int .u64 0, .int .u64 0]) (by kernel_rfl) (fun _ _ => by kernel_rfl) ?_
    with_reducible refine q_bin .neq 24 _ _ 24 (.agg (pw (x % 18446744073709551616))) (.agg #[.int .u64 ((x % 18446744073709551616 : Nat) : Int), .int .u64 0, .int .u64 0, .int .u64 0]) (.bool false) rfl (by kernel_rfl) (by kernel_rfl) (by kernel_rfl) (fun _ => by kernel_rfl) (fun w' => neq_one x w') ?_
    with_reducible refine q_val (.bool false) (by kernel_rfl) (fun _ _ => by kernel_rfl) ?_
    with_reducible refine wpQuiet_nil ?_
    intro wx hC
    have HC := Lib.hid hC
    clear hC H3
    simp only [Act.put, List.setIfInBounds_toArray, List.set_cons_succ, List.set_cons_zero]
    go_wp2_with fail
    refine (HP1.out _).mono ?_
    rintro e w4 ⟨rfl, hb4⟩
    have H4 := Lib.hid ((HC.out.below hb4).lay (pw z))
    have G4 := Lib.hid (heap_alloc_new w4 (.cells (#[.int .u64 0, .int .u64 0, .int .u64 0, .int .u64 0]) 24))
    clear hb4 HC
    go_upto_region 9 with (refine wpList_store_row rfl 24 _ _ rfl w4.heap.size (pw z) rfl rfl 24 (#[.int .u64 0, .int .u64 0, .int .u64 0, .int .u64 0]) (by exact G4.out) infoWord rfl (pw_one _) ?_)
    obtain ⟨w5, hw5⟩ : ∃ w5, (w4.alloc (.cells (#[.int .u64 0, .int .u64 0, .int .u64 0, .int .u64 0]) 24)).setRow w4.heap.size (pw z) = w5 := ⟨_, rfl⟩
    obtain ⟨g12, hg12⟩ : ∃ g12, w4.heap.size = g12 := ⟨_, rfl⟩
    rw [hw5, hg12] at H4
    rw [hw5, hg12]
    clear hw5 hg12 G4
    go_wp2_with fail
    refine (HP2.out _).mono ?_
    rintro e w6 ⟨rfl, hb6⟩
    have H6 := Lib.hid ((H4.out.below hb6).lay (pw z))
    have G6 := Lib.hid (heap_alloc_new w6 (.cells (#[.int .u64 0, .int .u64 0, .int .u64 0, .int .u64 0]) 24))
    clear hb6 H4
    go_upto_region 10 with (refine wpList_store_row rfl 24 _ _ rfl w6.heap.size (pw z) rfl rfl 24 (#[.int .u64 0, .int .u64 0, .int .u64 0, .int .u64 0]) (by exact G6.out) infoWord rfl (pw_one _) ?_)
    obtain ⟨w7, hw7⟩ : ∃ w7, (w6.alloc (.cells (#[.int .u64 0, .int .u64 0, .int .u64 0, .int .u64 0]) 24)).setRow w6.heap.size (pw z) = w7 := ⟨_, rfl⟩
    obtain ⟨g14, hg14⟩ : ∃ g14, w6.heap.size = g14 := ⟨_, rfl⟩
    rw [hw7, hg14] at H6
    rw [hw7, hg14]
    clear hw7 hg14 G6
    go_wp2_with (refine wpList_ld rfl 24 _ rfl (.pointer (some ⟨w.heap.size, 0, none⟩)) (.agg (pw x)) rfl (ld_pw (by exact H6.out.ra)) ?_)
    refine (HDe.out _ H6.out.tb).mono ?_
    rintro e w8 ⟨rfl, hb8⟩
    have H8 := Lib.hid (H6.out.below hb8)
    clear hb8 H6
    go_wp2_with fail
    refine (HPD.out _).mono ?_
    rintro e w9 ⟨rfl, hb9⟩
    have H9 := Lib.hid ((H8.out.below hb9).lay (pw x))
    have G9 := Lib.hid (heap_alloc_new w9 (.cells (#[.int .u64 0, .int .u64 0, .int .u64 0, .int .u64 0]) 24))
    clear hb9 H8
    go_upto_region 11 with (refine wpList_store_row rfl 24 _ _ rfl w9.heap.size (pw x) rfl rfl 24 (#[.int .u64 0, .int .u64 0, .int .u64 0, .int .u64 0]) (by exact G9.out) infoWord rfl (pw_one _) ?_)
    obtain ⟨w10, hw10⟩ : ∃ w10, (w9.alloc (.cells (#[.int .u64 0, .int .u64 0, .int .u64 0, .int .u64 0]) 24)).setRow w9.heap.size (pw x) = w10 := ⟨_, rfl⟩
    obtain ⟨g16, hg16⟩ : ∃ g16, w9.heap.size = g16 := ⟨_, rfl⟩
    rw [hw10, hg16] at H9
    rw [hw10, hg16]
    clear hw10 hg16 G9
    refine q_region (C := CWt w x n v f [(g16, pw x), (g14, pw z), (g12, pw z)]) H9.out ?_
    with_reducible refine q_load 24 (.tmp 12) (.pointer (some ⟨g12, 0, none⟩)) (.agg (pw z)) rfl (by kernel_rfl) (by kernel_rfl) (fun _ c => ld_pw (c.is _ _ (by simp))) ?_
    with_reducible refine q_load 24 (.tmp 14) (.pointer (some ⟨g14, 0, none⟩)) (.agg (pw z)) rfl (by kernel_rfl) (by kernel_rfl) (fun _ c => ld_pw (c.is _ _ (by simp))) ?_
    with_reducible refine q_bin .eql 24 _ _ 24 (.agg (pw z)) (.agg (pw z)) (.bool true) rfl (by kernel_rfl) (by kernel_rfl) (by kernel_rfl) (fun _ => by kernel_rfl) (fun w' => HEZ.out w') ?_
    with_reducible refine q_val (.bool true) (by kernel_rfl) (fun _ _ => by kernel_rfl) ?_
    with_reducible refine q_val (.int .i64 qn) (by kernel_rfl) (fun _ _ => by kernel_rfl) ?_
    with_reducible refine q_val (.int .i64 qn) (by kernel_rfl) (fun _ _ => by kernel_rfl) ?_
    with_reducible refine q_bin .eql 33 _ _ 33 (.int .i64 qn) (.int .i64 qn) (.bool true) rfl (by kernel_rfl) (by kernel_rfl) (by kernel_rfl) (fun _ => by kernel_rfl) (fun w' => eql_en qn w') ?_
    with_reducible refine q_val (.bool true) (by kernel_rfl) (fun _ _ => by kernel_rfl) ?_
    with_reducible refine q_val (.bool true) (by kernel_rfl) (fun _ _ => by kernel_rfl) ?_
    with_reducible refine q_load 24 (.tmp 16) (.pointer (some ⟨g16, 0, none⟩)) (.agg (pw x)) rfl (by kernel_rfl) (by kernel_rfl) (fun _ c => ld_pw (c.is _ _ (by simp))) ?_
    with_reducible refine q_load 24 (.tmp 3) (.pointer (some ⟨w.heap.size, 0, none⟩)) (.agg (pw x)) rfl (by kernel_rfl) (by kernel_rfl) (fun _ c => ld_pw c.ra) ?_
    with_reducible refine q_bin .eql 24 _ _ 24 (.agg (pw x)) (.agg (pw x)) (.bool true) rfl (by kernel_rfl) (by kernel_rfl) (by kernel_rfl) (fun _ => by kernel_rfl) (fun w' => HEX.out w') ?_
    with_reducible refine q_val (.bool true) (by kernel_rfl) (fun _ _ => by kernel_rfl) ?_
    with_reducible refine q_val (.bool true) (by kernel_rfl) (fun _ _ => by kernel_rfl) ?_
    with_reducible refine q_val (.int .i64 0) (by kernel_rfl) (fun _ _ => by kernel_rfl) ?_
    with_reducible refine q_bin .eql 33 _ _ 33 (.int .i64 0) (.int .i64 0) (.bool true) rfl (by kernel_rfl) (by kernel_rfl) (by kernel_rfl) (fun _ => by kernel_rfl) (fun w' => by kernel_rfl) ?_
    with_reducible refine q_val (.bool true) (by kernel_rfl) (fun _ _ => by kernel_rfl) ?_
    with_reducible refine q_val (.bool true) (by kernel_rfl) (fun _ _ => by kernel_rfl) ?_
    with_reducible refine q_call 14 #[] (.bool true) (by kernel_rfl) (fun _ => by kernel_rfl) (CWt.calls HLV.out) ?_
    with_reducible refine q_val (.bool true) (by kernel_rfl) (fun _ _ => by kernel_rfl) ?_
    with_reducible refine q_val (.bool true) (by kernel_rfl) (fun _ _ => by kernel_rfl) ?_
    with_reducible refine wpQuiet_nil ?_
    intro wx hC
    have HZZ := Lib.hid hC
    clear hC H9
    simp only [Act.put, List.setIfInBounds_toArray, List.set_cons_succ, List.set_cons_zero]
    go_wp2_with fail
    go_ret
    exact ⟨rfl, HZZ.out.old⟩
end Go.Proofs.YtmhgnlngcjckbaaDoor
namespace Go.Proofs.YtmhgnlngcjckbaaDoor
open Go.ChangeShapes Go.WideShapes Go.ChangeAt Go.RowKit
theorem cellsU8 : Tryd.prog.cellsOf 5 = 1 := by kernel_rfl
theorem lits_len {H : Type} (k : IntKind) (zs : List Int) : (lits (H := H) k zs).length = zs.length := by simp [lits]
theorem range_u8' {zs : List Int} (hw : ∀ n ∈ zs, (Lit.int .u8 n).wf = true) (j : Nat) : 0 ≤ zs.getD j 0 ∧ zs.getD j 0 ≤ 255 := by
  rcases Nat.lt_or_ge j zs.length with h | h
  · have h1 := hw (zs.getD j 0) (by rw [List.getD_eq_getElem?_getD, List.getElem?_eq_getElem h]; exact List.getElem_mem h)
    simpa [Lit.wf, IntKind.min, IntKind.max, IntKind.signed, IntKind.bits] using h1
  · rw [List.getD_eq_getElem?_getD, List.getElem?_eq_none h]
    decide
set_option maxRecDepth 100000 in
/-- BYTES AMONG THE ARGUMENTS. -/
theorem open_bytesS {H : Type} {enc : TypeId × Value → H} {W : World} {base b2 : Nat} {hd : Bool} {v : Value} {d : DataW H} {ps : List MemPlace}
    (hv : Value.okWide Tryd.prog W .any base 25 v) (h : DataW.Trod enc Tryd.prog W b2 (fun _ => true) hd 25 v d ps) :
    ∃ (n : Nat) (f : Nat → Nat), ArgB W v n f ∧ (∀ j, f j < 256) ∧ (n = 0 ∨ ∃ l s, d = .slice l s ∧ l.length = n) := by
  obtain ⟨a0, len, cap, rfl⟩ := okWide_slice Tryd.underlying25 hv
  obtain ⟨fuel, hf⟩ := h
  rcases open_ints Tryd.underlying25 Tryd.underlying5 cellsU8 hf with ⟨hcs, -⟩ | ⟨a, len', cap', zs, hcs, -, hl, hm, hz, hx, hcell, hwz⟩
  · simp [Value.cells] at hcs
    obtain ⟨rfl, rfl, rfl⟩ := hcs
    exact ⟨0, fun _ => 0, ⟨none, 0, rfl, Nat.le_refl _, fun _ => rfl, .inl rfl⟩, fun j => (by show (0 : Nat) < 256; omega), .inl rfl⟩
  · simp [Value.cells] at hcs
    obtain ⟨rfl, rfl, rfl⟩ := hcs
    simp only [if_true] at hz
    have hr := fun j => range_u8' hwz j
    have hd' : d = .slice (lits .u8 (zs.take len)) (lits .u8 (zs.drop len)) := congrArg Prod.fst hx
    refine ⟨len, fun j => (zs.getD j 0).toNat, ⟨some a, cap, rfl, hl, (fun h => by cases h), ?_⟩, fun j => ?_, .inr ⟨_, _, hd', by rw [lits_len, List.length_take]; omega⟩⟩
    · rcases Nat.eq_zero_or_pos len with h0 | h0
      · exact .inl h0
      · obtain ⟨ab, ao, spot⟩ := a
        have hspot : spot = none := by simpa [Addr.add] using World.cell?_spot (hcell 0 (by omega))
        subst hspot
        refine .inr ⟨ab, ao, rfl, by simpa [Addr.add] using World.block_lt_of_cell? W _ (hcell 0 (by omega)), fun j hj => ?_⟩
        have hc := hcell j (by omega)
        rw [Addr.add_lit] at hc
        rw [hc]
        have h1 := hr j
        show _ = some (Value.int .u8 (((zs.getD j 0).toNat : Nat) : Int))
        rw [Int.toNat_of_nonneg h1.1]
    · have h1 := hr j
      show (zs.getD j 0).toNat < 256
      omega
theorem bytesU8 : Tryd.prog.bytesOf 5 = 1 := by kernel_rfl
/-- WHAT THE FORM's REACH SAYS of a list of bytes. -/
theorem bytes_sized {H : Type} {ts : List TypeId} {ds : List (DataW H)} (h : (DataW.weightsEach Tryd.prog ts ds).all (· ≤ reachBytes) = true) {j : Nat} {d : DataW H} {n : Nat} (ht : ts[j]? = some 25) (hd : ds[j]? = some d) (hn : n = 0 ∨ ∃ l s, d = .slice l s ∧ l.length = n) : n ≤ 140737488355328 := by
  rcases hn with rfl | ⟨l, s, rfl, rfl⟩
  · omega
  · have := sized_slice h ht hd Tryd.underlying25
    rw [bytesU8] at this
    unfold reachBytes at this
    omega
theorem tab_of {W : World} (h : laidMet Tryd.prog Rows.wordTextsRow.laid W) : Tab10 W :=
  Lib.tabIs_of_head (g := 0) (t := 103) (e := 22) (n := 20) (rest := []) (by kernel_rfl) (by kernel_rfl) Tryd.underlying103 Tryd.underlying22 (by kernel_rfl) (by kernel_rfl) (laidMet.tail (laidMet.tail h))
end Go.Proofs.YtmhgnlngcjckbaaDoor
namespace Go.Proofs.YtmhgnlngcjckbaaDoor.wordTexts
open Go.ChangeShapes Go.WideShapes Go.ChangeAt Go.RowKit

set_option maxRecDepth 100000 in
theorem contract (H : Type) (enc : TypeId × Value → H) (W : World) (base : Nat) (args : Array Value) (ds gs : List (DataW H)) (before : List MemPlace)
    (hval : ∀ (j : Nat) t v, Tryd.f3.params[j]? = some t → args[j]? = some v → Value.okWide Tryd.prog W .any base t v)
    (hW : DataW.Whole enc Tryd.prog Tryd.f3.params.toList Rows.wordTextsSpec.vars false W args.toList ds gs before) (hsz : (DataW.weightsEach Tryd.prog (Tryd.f3.params.toList ++ (OpenSpec.ofChange Rows.wordTextsSpec).bare.plain.varTypes Tryd.prog) (ds ++ gs)).all (· ≤ reachBytes) = true) (hT : Tab10 W) :
    Calls Tryd.prog 3 args W fun e W' => ∃ v, e = .returned v ∧ Rows.wordTextsSpec.post enc Tryd.prog Tryd.f3 false true false false W args v W' := by
  have hW' := hW
  obtain ⟨p, q, hA0, hV, rfl, hfz, hnd⟩ := hW
  have hA : DataW.TrodAll enc Tryd.prog W 0 (fun _ => true) true Tryd.f3.params.toList args.toList ds p := hA0
  rw [Tryd.params3] at hA hval hsz
  obtain ⟨v0, vs0, d0, ds0, p0, q0, hargs, rfl, rfl, h0, r0⟩ := trodAll_cons hA
  obtain ⟨v1, vs1, d1, ds1, p1, q1, rfl, rfl, rfl, h1, r1⟩ := trodAll_cons r0
  obtain ⟨v2, vs2, d2, ds2, p2, q2, rfl, rfl, rfl, h2, r2⟩ := trodAll_cons r1
  obtain ⟨rfl, rfl, rfl⟩ := trodAll_nil r2
  obtain rfl : args = #[v0, v1, v2] := by cases args; simp_all
  obtain ⟨rfl, rfl⟩ := trodVars_none hV
  obtain ⟨x0, rfl⟩ := open_word (hval 0 24 v0 rfl rfl) h0
  obtain ⟨n1, f1, A1, L1, S1⟩ := open_bytesS (hval 1 25 v1 rfl rfl) h1
  obtain ⟨s2, rfl, -, -, M2⟩ := Go.ChangeMaps.open_string Tryd.underlying9 (hval 2 9 v2 rfl rfl) h2
  have B1 := bytes_sized hsz (j := 1) (d := d1) rfl rfl S1
  clear hA0
  have key := wtexts_any (x0 % 115792089237316195423570985008687907853269984665640564039457584007913129639936) n1 (Nat.mod_lt _ (by omega)) v1 f1 L1 B1 s2 M2 W A1 hT
  rw [pw_modn, ← wv_pw] at key
  refine key.mono fun e W' ⟨he, hb⟩ => ?_
  subst he
  refine ⟨_, rfl, _, _, _, [], p0 ++ (p1 ++ (p2 ++ [])), [], hW', trodAll_cons_mk (shut_bool Tryd.underlying4 _) trodAll_mk0, trodAll_cons_mk (Below.trod laidOutF (by kernel_rfl) (of_decide_eq_true (by kernel_rfl)) h0 hb (fun x hx => hW'.lt x (by simp [hx]))) (trodAll_cons_mk (Below.trod laidOutF (by kernel_rfl) (of_decide_eq_true (by kernel_rfl)) h1 hb (fun x hx => hW'.lt x (by simp [hx]))) (trodAll_cons_mk (Below.trod laidOutF (by kernel_rfl) (of_decide_eq_true (by kernel_rfl)) h2 hb (fun x hx => hW'.lt x (by simp [hx]))) trodAll_mk0)), rfl, hb.frame _, fun h => by cases h⟩

theorem laid_met (os : Os) : laidMet Tryd.prog Rows.wordTextsRow.laid ((laidWorld os).forCall (fun _ _ => 0) ⟨#[], #[.agg #[.int .u64 0, .int .u64 0, .int .u64 0, .int .u64 0], .slice none 0 0, .string ByteArray.empty], []⟩).memory :=
  laidMet_of_run' 80 (by kernel_rfl) (by kernel_rfl)
theorem reads (os : Os) {H : Type} (enc : TypeId × Value → H) : ∃ places, DataW.whole enc Tryd.prog ((laidWorld os).forCall (fun _ _ => 0) ⟨#[], #[.agg #[.int .u64 0, .int .u64 0, .int .u64 0, .int .u64 0], .slice none 0 0, .string ByteArray.empty], []⟩).memory Tryd.f3.params.toList Rows.wordTextsSpec.vars false (#[.agg #[.int .u64 0, .int .u64 0, .int .u64 0, .int .u64 0], .slice none 0 0, .string ByteArray.empty] : Array Value).toList 80 = some ([.agg [.lit (.int .u64 0), .lit (.int .u64 0), .lit (.int .u64 0), .lit (.int .u64 0)], .nil, .lit (.string [])], [], places) :=
  ⟨[], by kernel_rfl⟩

set_option maxRecDepth 100000 in
theorem lifted (os : Os) (started : os.Started) (H : Type) (enc : TypeId × Value → H) (F : Stop.Interp) :
    ReturnsInHanded {} Tryd.checked os 3 .any ((OpenSpec.ofChange Rows.wordTextsSpec).preRow enc Tryd.prog Tryd.f3 Rows.wordTextsRow.domain false Rows.wordTextsRow.laid) (((OpenSpec.ofChange Rows.wordTextsSpec).at F).post enc Tryd.prog Tryd.f3 false true false false) := by
  obtain ⟨places, hx⟩ := reads os enc
  refine returnsInHanded_of_row (C := Tryd.checked) (s := OpenSpec.ofChange Rows.wordTextsSpec) ownF started (by kernel_rfl) Tryd.func3
    (witness_row_at (enc := enc) (C := Tryd.checked) false (laidWorld os) #[.agg #[.int .u64 0, .int .u64 0, .int .u64 0, .int .u64 0], .slice none 0 0, .string ByteArray.empty] rfl (by kernel_rfl) (by kernel_rfl) (by kernel_rfl)
      (OpenSpec.preRow_of_cond 80 hx (by kernel_rfl) (fun k hk => by cases hk) (by kernel_rfl) (laid_met os))) ?_
  intro W base args ds gs before hval hW _ _ hsz hlaid _ _
  exact contract H enc W base args ds gs before hval hW hsz (tab_of hlaid)

theorem said : Rows.WordTextsSaid :=
  OpenClaim.holds_of_cond 3 Tryd.f3 rfl rfl rfl rfl rfl rfl rfl ⟨rfl, rfl, rfl, rfl, rfl⟩ rfl rfl rfl rfl rfl (by kernel_rfl) Tryd.func3 (by kernel_rfl)
    (of_decide_eq_true (by kernel_rfl)) (by unfold Func.isWrapper; rw [if_neg (of_decide_eq_false (by kernel_rfl))]; exact ⟨rfl, rfl⟩)
    (fun os started H enc _ F => by rw [OpenClaim.pre_eq_preRow]; exact lifted os started H enc F)

/-- No parameter wants a stand-in; the program's own looks are off: what the card asks. -/
theorem plain (f : FuncId) (fn : Func) (hf : Tryd.pinned.checked.prog.funcNamed "bailiwick/bailiwicklaw01.WordTexts" = some f) (hfn : Tryd.pinned.checked.prog.funcs[f]? = some fn) :
    false = Tryd.pinned.checked.prog.looks [] ∧ ∀ (j : Nat) t, fn.params[j]? = some t → Tryd.pinned.checked.prog.wantsStandIn t = false := by
  obtain rfl : f = 3 := Option.some.inj ((show Tryd.prog.funcNamed "bailiwick/bailiwicklaw01.WordTexts" = some 3 by kernel_rfl).symm.trans hf) |>.symm
  obtain rfl : fn = Tryd.f3 := (Option.some.inj (Tryd.func3.symm.trans hfn)).symm
  refine ⟨by kernel_rfl, fun j t ht => ?_⟩
  rw [Tryd.params3] at ht
  have hm := Array.mem_of_getElem? ht
  simp only [List.mem_toArray, List.mem_cons, List.not_mem_nil, or_false] at hm
  rcases hm with rfl | rfl | rfl
  · exact (show Tryd.prog.wantsStandIn 24 = false by kernel_rfl)
  · exact (show Tryd.prog.wantsStandIn 25 = false by kernel_rfl)
  · exact (show Tryd.prog.wantsStandIn 9 = false by kernel_rfl)

/-- THE CARD. -/
theorem card : Rows.WordTextsCardSaid :=
  Claim7.holds_tied_plain_at .later [] _ _ _ _ said (fun _ h => by cases h) (by kernel_rfl) (fun _ h => by cases h) wordTexts_row_tie rfl ⟨rfl, rfl⟩ (by kernel_rfl) rfl plain (by kernel_rfl)
end Go.Proofs.YtmhgnlngcjckbaaDoor.wordTexts

/- What the laws of field stand on, in one. (With it, merged: FInv · FSqrt · FLives · Prm · FCrv · FFds · FInvN · FInvC · FOpen · FTwo · FRootN · Many · FBase.) -/
import Derived.Test.YtfgefifplmhopaaM7
import Derived.Laws.Bits64b
import Derived.Test.YtfgefifplmhopaaRows
import Derived.WalkKit
import Derived.ProofKit
import Derived.OpenShut
import Derived.ChangeSlices
import Derived.Deep.DeepHandedRow
import Derived.Lib.LaidTab
import Derived.Laws.IdiomArrays
import Derived.Test.YtfgefifplmhopaaM5
namespace Go.Proofs.Ytfgefifplmhopaa
open Go.RowKit
theorem CW.rowed2 {w wx : World} {F m a g : Nat} {cs : Array Value} (c : CW w F m [(w.heap.size + 1, #[.int .u64 0, .int .u64 0, .int .u64 0, .int .u64 0]), (w.heap.size, pw a)] wx) (hg : w.heap.size + 2 ≤ g) : CW w F m [(w.heap.size + 1, #[.int .u64 0, .int .u64 0, .int .u64 0, .int .u64 0]), (w.heap.size, pw a)] (wx.setRow g cs) := by
  have hF := c.hF
  refine ⟨below_setRow c.old (by omega) _, fld_row c.fld (by omega), hF, fun p hp => (setRow_other _ _ _ _ ?_).trans (c.rows p hp)⟩
  simp only [List.mem_cons, List.not_mem_nil, or_false] at hp
  rcases hp with rfl | rfl
  · show w.heap.size + 1 ≠ g; omega
  · show w.heap.size ≠ g; omega
theorem CW.high2 {w wx : World} {F m a : Nat} (c : CW w F m [(w.heap.size + 1, #[.int .u64 0, .int .u64 0, .int .u64 0, .int .u64 0]), (w.heap.size, pw a)] wx) : w.heap.size + 2 ≤ wx.heap.size := (Array.getElem?_eq_some_iff.1 (c.is (w.heap.size + 1) (#[.int .u64 0, .int .u64 0, .int .u64 0, .int .u64 0]) (by simp))).1
theorem res_cell_tmp {P : Program} {fn : Func} {p u : Tmp} {ty : TypeId} {vb : Value} (h : fn.results = #[.cell p ty, .tmp u]) (tmps : Array Value) (w : World) (g : Nat) (t : TypeId) (cs : Array Value) (fr : Nat × Nat) (d : TypeDesc)
    (hp : tmps.getD p undef = .pointer (some ⟨g, 0, none⟩)) (hb : tmps.getD u undef = vb) (hg : w.heap[g]? = some (.cells cs t fr))
    (hu : P.underlying ty = some d) (hd : (match d with | .struct _ | .array _ _ => true | _ => false) = true) (hi : (P.info? ty).map (·.size) = some cs.size) :
    (results fn tmps).run P w = .ok (.tuple #[.agg cs, vb]) w := by
  have hp' : tmps[p]?.getD undef = .pointer (some ⟨g, 0, none⟩) := by simpa using hp
  have hb' : tmps[u]?.getD undef = vb := by simpa using hb
  simp [results, h, hp', hb', asAddr, run_loadVar_row w g t ty cs fr d hg hu hd hi]
theorem less2 {m : Nat} (h1 : 1 < m) (hm : m < 115792089237316195423570985008687907853269984665640564039457584007913129639936) : pw (m + (115792089237316195423570985008687907853269984665640564039457584007913129639936 - 2)) = pw (m - 2) := pw_congr (by omega)
set_option maxRecDepth 100000 in
set_option maxHeartbeats 2000000 in
-- WHAT Inv COMES TO.
theorem finv_any (F m n : Nat) (ha : n < 115792089237316195423570985008687907853269984665640564039457584007913129639936) (w : World) (hF : FldAt w F m) : Calls Try.prog 27 #[.pointer (some ⟨F, 0, none⟩), .agg (pw n)] w fun e w' => e = .returned (.tuple #[.agg (pw (if n * (n ^ (m - 2) % m) % m = 1 then n ^ (m - 2) % m else 0)), .bool (decide (n * (n ^ (m - 2) % m) % m = 1))]) ∧ Below w.heap.size w w' := by
  have H0 := Lib.hid (CW.one hF n)
  have HO := Lib.hid (And.intro hF.odd (And.intro hF.big hF.lt))
  have HEX := Lib.hid (fun wx (c : CW w F m [(w.heap.size + 1, #[.int .u64 0, .int .u64 0, .int .u64 0, .int .u64 0]), (w.heap.size, pw n)] wx) => fexp_any F m n (m - 2) ha (by have := hF.lt; omega) wx c.fld)
  have HSB := Lib.hid (fun wx => sub_pw m 2 (by omega) wx)
  rw [less2 hF.big hF.lt] at HSB
  have hil : n ^ (m - 2) % m < m := Nat.mod_lt _ (by have := hF.big; omega)
  obtain ⟨v, hv⟩ : ∃ v, n ^ (m - 2) % m = v := ⟨_, rfl⟩
  rw [hv] at HEX hil ⊢
  obtain ⟨u, hu⟩ : ∃ u, n * v % m = u := ⟨_, rfl⟩
  have HUL := Lib.hid (show u < 115792089237316195423570985008687907853269984665640564039457584007913129639936 from by rw [← hu]; exact Nat.lt_trans (Nat.mod_lt _ (by have := hF.big; omega)) hF.lt)
  have HU := Lib.hid hu
  rw [hu]
  have HN := Lib.hid (And.intro ha (Nat.lt_trans hil hF.lt))
  clear hF ha hil hv hu
  go_enter Try.func27, Try.ntmps27
  go_wp2_with fail
  refine region_tie (CW w F m [(w.heap.size + 1, #[.int .u64 0, .int .u64 0, .int .u64 0, .int .u64 0]), (w.heap.size, pw n)]) (fun i s wx => match i with | 0 => s 7 = (.pointer (some ⟨F, 0, none⟩)) | 1 => s 8 = (.agg (pw n)) | 2 => s 9 = (.pointer (some ⟨F, 0, none⟩)) | 3 => s 10 = (.pointer (some ⟨F, 0, none⟩)) | 4 => s 11 = (.pointer (some ⟨F, 0, none⟩)) | 5 => s 12 = (.agg (pw m)) | 6 => s 13 = (.agg (pw 2)) | 7 => s 14 = (.agg (pw (m - 2))) | 8 => s 15 = (.agg (pw v)) | 9 => ∃ D, s 6 = .pointer (some ⟨D, 0, none⟩) ∧ (w.heap.size + 2) ≤ D ∧ ∃ cs : Array Value, wx.heap[D]? = some (.cells cs 24 (0, 0)) ∧ cs.size = 4 | 10 => ∃ D, s 6 = .pointer (some ⟨D, 0, none⟩) ∧ (w.heap.size + 2) ≤ D ∧ wx.heap[D]? = some (.cells (FW v 24) 24 (0, 0)) | _ => True) (RT (w.heap.size + 2) (FW v)) (fun i => match i with | 0 => [7] | 1 => [8] | 2 => [9] | 3 => [10] | 4 => [11] | 5 => [12] | 6 => [13] | 7 => [14] | 8 => [15] | 9 => [6] | 10 => [6] | _ => []) (fun i => i) (by kernel_rfl) (by kernel_rfl) H0.out.drew ?_ ?_ ?_ ?_
  · intro i s s' wx he hp
    match i, he, hp with
    | 0, he, hp => exact (he 7 (by simp)).symm.trans hp
    | 1, he, hp => exact (he 8 (by simp)).symm.trans hp
    | 2, he, hp => exact (he 9 (by simp)).symm.trans hp
    | 3, he, hp => exact (he 10 (by simp)).symm.trans hp
    | 4, he, hp => exact (he 11 (by simp)).symm.trans hp
    | 5, he, hp => exact (he 12 (by simp)).symm.trans hp
    | 6, he, hp => exact (he 13 (by simp)).symm.trans hp
    | 7, he, hp => exact (he 14 (by simp)).symm.trans hp
    | 8, he, hp => exact (he 15 (by simp)).symm.trans hp
    | 9, he, hp => obtain ⟨D, h1, h2⟩ := hp; exact ⟨D, (he 6 (by simp)).symm.trans h1, h2⟩
    | 10, he, hp => obtain ⟨D, h1, h2⟩ := hp; exact ⟨D, (he 6 (by simp)).symm.trans h1, h2⟩
    | _ + 11, _, _ => trivial
  · intro i s wa wb hR hp
    match i, hp with
    | 0, hp => exact hp
    | 1, hp => exact hp
    | 2, hp => exact hp
    | 3, hp => exact hp
    | 4, hp => exact hp
    | 5, hp => exact hp
    | 6, hp => exact hp
    | 7, hp => exact hp
    | 8, hp => exact hp
    | 9, hp => obtain ⟨D, h1, h2, cs, h3, h4⟩ := hp; obtain ⟨cs', h5, h6⟩ := hR.shape _ _ _ _ h3; exact ⟨D, h1, h2, cs', h5, h6.trans h4⟩
    | 10, hp => obtain ⟨D, h1, h2, h3⟩ := hp; exact ⟨D, h1, h2, hR.keep _ _ _ h3⟩
    | _ + 11, _ => trivial
  · refine ⟨?_, ?_, ?_, ?_, ?_, ?_, ?_, ?_, ?_, ?_, ?_, trivial⟩
    · intro a wx hC hsz hK
      have h0 : a.tmps.getD 0 undef = (.pointer (some ⟨F, 0, none⟩)) := hK.1 0 (by kernel_rfl)
      exact tt_val ((.pointer (some ⟨F, 0, none⟩))) (by kernel_rfl) (by rw [← h0]; kernel_rfl) hC (slots_put _ _ _ (by rw [hsz]; exact of_decide_eq_true (by kernel_rfl))) (RT.refl _ _ _)
    · intro a wx hC hsz hK
      have h0 : a.tmps.getD 3 undef = (.pointer (some ⟨w.heap.size, 0, none⟩)) := hK.1 3 (by kernel_rfl)
      exact tt_load 24 (.tmp 3) ((.pointer (some ⟨w.heap.size, 0, none⟩))) ((.agg (pw n))) rfl (by kernel_rfl) h0 (ld_pw (hC.is _ _ (by simp))) hC (slots_put _ _ _ (by rw [hsz]; exact of_decide_eq_true (by kernel_rfl))) (RT.refl _ _ _)
    · intro a wx hC hsz hK
      have h0 : a.tmps.getD 0 undef = (.pointer (some ⟨F, 0, none⟩)) := hK.1 0 (by kernel_rfl)
      exact tt_val ((.pointer (some ⟨F, 0, none⟩))) (by kernel_rfl) (by rw [← h0]; kernel_rfl) hC (slots_put _ _ _ (by rw [hsz]; exact of_decide_eq_true (by kernel_rfl))) (RT.refl _ _ _)
    · intro a wx hC hsz hK
      have h0 : a.tmps.getD 9 undef = (.pointer (some ⟨F, 0, none⟩)) := hK.2 ⟨2, .data⟩ (by simp) rfl _ rfl
      exact tt_val (.pointer (some ⟨F, 0, none⟩)) (by kernel_rfl) (run_nil (.tmp 9) _ rfl (by rw [← h0]; kernel_rfl)) hC (slots_put _ _ _ (by rw [hsz]; exact of_decide_eq_true (by kernel_rfl))) (RT.refl _ _ _)
    · intro a wx hC hsz hK
      have h0 : a.tmps.getD 10 undef = (.pointer (some ⟨F, 0, none⟩)) := hK.2 ⟨3, .data⟩ (by simp) rfl _ rfl
      refine tt_v (Instr.fieldAt 49 (a.tmps.getD 10 undef) 0) ((.pointer (some ⟨F, 0, none⟩))) (by kernel_rfl) (by kernel_rfl) ?_ hC (slots_put _ _ _ (by rw [hsz]; exact of_decide_eq_true (by kernel_rfl))) (RT.refl _ _ _)
      rw [h0]
      exact fld_at F wx
    · intro a wx hC hsz hK
      have h0 : a.tmps.getD 11 undef = (.pointer (some ⟨F, 0, none⟩)) := hK.2 ⟨4, .data⟩ (by simp) rfl _ rfl
      exact tt_load 24 (.tmp 11) ((.pointer (some ⟨F, 0, none⟩))) ((.agg (pw m))) rfl (by kernel_rfl) h0 (ld_m hC.fld) hC (slots_put _ _ _ (by rw [hsz]; exact of_decide_eq_true (by kernel_rfl))) (RT.refl _ _ _)
    · intro a wx hC hsz hK
      refine tt_call 30 #[(.int .u64 (2 : Nat))] (by kernel_rfl) (by kernel_rfl) ?_
      exact (of_wv 2 (by omega) wx).mono fun e w' hh => ⟨_, hh.1, hC.below hh.2, (slots_put _ _ _ (by rw [hsz]; exact of_decide_eq_true (by kernel_rfl))), RT.of hC.high2 hh.2⟩
    · intro a wx hC hsz hK
      have h0 : a.tmps.getD 12 undef = (.agg (pw m)) := hK.2 ⟨5, .data⟩ (by simp) rfl _ rfl
      have h1 : a.tmps.getD 13 undef = (.agg (pw 2)) := hK.2 ⟨6, .data⟩ (by simp) rfl _ rfl
      refine tt_call 48 #[a.tmps.getD 12 undef, a.tmps.getD 13 undef] (by kernel_rfl) (by kernel_rfl) ?_
      rw [h0, h1]
      exact (HSB.out wx).mono fun e w' hh => ⟨_, hh.1, hC.below hh.2, (slots_put _ _ _ (by rw [hsz]; exact of_decide_eq_true (by kernel_rfl))), RT.of hC.high2 hh.2⟩
    · intro a wx hC hsz hK
      have h0 : a.tmps.getD 7 undef = (.pointer (some ⟨F, 0, none⟩)) := hK.2 ⟨0, .data⟩ (by simp) rfl _ rfl
      have h1 : a.tmps.getD 8 undef = (.agg (pw n)) := hK.2 ⟨1, .data⟩ (by simp) rfl _ rfl
      have h2 : a.tmps.getD 14 undef = (.agg (pw (m - 2))) := hK.2 ⟨7, .data⟩ (by simp) rfl _ rfl
      refine tt_call 29 #[a.tmps.getD 7 undef, a.tmps.getD 8 undef, a.tmps.getD 14 undef] (by kernel_rfl) (by kernel_rfl) ?_
      rw [h0, h1, h2]
      exact (HEX.out wx hC).mono fun e w' hh => ⟨_, hh.1, hC.below hh.2, (slots_put _ _ _ (by rw [hsz]; exact of_decide_eq_true (by kernel_rfl))), RT.of hC.high2 hh.2⟩
    · intro a wx hC hsz hK
      exact tt_new (.pointer (some ⟨wx.heap.size, 0, none⟩)) (by kernel_rfl) (by kernel_rfl) (hC.below ((Below.refl _ _).alloc (Nat.le_refl _) _)) ⟨_, (slots_put _ _ _ (by rw [hsz]; exact of_decide_eq_true (by kernel_rfl))), hC.high2, #[.int .u64 0, .int .u64 0, .int .u64 0, .int .u64 0], heap_alloc_new _ _, rfl⟩ (RT.of hC.high2 ((Below.refl _ _).alloc (Nat.le_refl _) _))
    · intro a wx hC hsz hK
      obtain ⟨D, h1, h2, cs, h3, h4⟩ := hK.2 ⟨9, .data⟩ (by simp) rfl _ rfl
      have h0 : a.tmps.getD 15 undef = (.agg (pw v)) := hK.2 ⟨8, .data⟩ (by simp) rfl _ rfl
      exact tt_store (by kernel_rfl) rfl (run_store 24 (.tmp 6) (.tmp 15) _ _ rfl h1 h0 (store_w h4 h3)) (hC.rowed2 h2) ⟨D, h1, h2, setRow_heap _ _ _ _ _ _ h3⟩ (RT.row h2 h3 (by rw [h4]; rfl))
  intro f1 w5 hC hf1
  obtain ⟨E, s6, hE, hrE⟩ := hf1 10 _ rfl
  have H2 := Lib.hid (show CW w F m [(E, pw v), (w.heap.size + 1, #[.int .u64 0, .int .u64 0, .int .u64 0, .int .u64 0]), (w.heap.size, pw n)] w5 from ⟨hC.old, hC.fld, hC.hF, fun p hp => by
    rcases List.mem_cons.1 hp with rfl | hp
    · exact hrE
    · exact hC.rows p hp⟩)
  have HE := Lib.hid hE
  clear hC hE hrE H0 HSB HEX
  generalize hAct : putAll _ _ _ = G at *
  have s0 : G.tmps.getD 0 undef = .pointer (some ⟨F, 0, none⟩) := by subst hAct; kernel_rfl
  have s3 : G.tmps.getD 3 undef = .pointer (some ⟨w.heap.size, 0, none⟩) := by subst hAct; kernel_rfl
  have s4 : G.tmps.getD 4 undef = .pointer (some ⟨w.heap.size + 1, 0, none⟩) := by subst hAct; kernel_rfl
  have s5 : G.tmps.getD 5 undef = .bool false := by subst hAct; kernel_rfl
  have s6' : G.tmps.getD 6 undef = .pointer (some ⟨E, 0, none⟩) := s6
  have hsz : G.tmps.size = 24 := by rw [← hAct, putAll_size]; rfl
  have hdf : G.defers = [] := by subst hAct; kernel_rfl
  clear hAct s6 hf1
  obtain ⟨u1, t1⟩ : ∃ u, G.tmps.getD 1 undef = u := ⟨_, rfl⟩
  obtain ⟨u2, t2⟩ : ∃ u, G.tmps.getD 2 undef = u := ⟨_, rfl⟩
  obtain ⟨u7, t7⟩ : ∃ u, G.tmps.getD 7 undef = u := ⟨_, rfl⟩
  obtain ⟨u8, t8⟩ : ∃ u, G.tmps.getD 8 undef = u := ⟨_, rfl⟩
  obtain ⟨u9, t9⟩ : ∃ u, G.tmps.getD 9 undef = u := ⟨_, rfl⟩
  obtain ⟨u10, t10⟩ : ∃ u, G.tmps.getD 10 undef = u := ⟨_, rfl⟩
  obtain ⟨u11, t11⟩ : ∃ u, G.tmps.getD 11 undef = u := ⟨_, rfl⟩
  obtain ⟨u12, t12⟩ : ∃ u, G.tmps.getD 12 undef = u := ⟨_, rfl⟩
  obtain ⟨u13, t13⟩ : ∃ u, G.tmps.getD 13 undef = u := ⟨_, rfl⟩
  obtain ⟨u14, t14⟩ : ∃ u, G.tmps.getD 14 undef = u := ⟨_, rfl⟩
  obtain ⟨u15, t15⟩ : ∃ u, G.tmps.getD 15 undef = u := ⟨_, rfl⟩
  obtain ⟨u16, t16⟩ : ∃ u, G.tmps.getD 16 undef = u := ⟨_, rfl⟩
  obtain ⟨u17, t17⟩ : ∃ u, G.tmps.getD 17 undef = u := ⟨_, rfl⟩
  obtain ⟨u18, t18⟩ : ∃ u, G.tmps.getD 18 undef = u := ⟨_, rfl⟩
  obtain ⟨u19, t19⟩ : ∃ u, G.tmps.getD 19 undef = u := ⟨_, rfl⟩
  obtain ⟨u20, t20⟩ : ∃ u, G.tmps.getD 20 undef = u := ⟨_, rfl⟩
  obtain ⟨u21, t21⟩ : ∃ u, G.tmps.getD 21 undef = u := ⟨_, rfl⟩
  obtain ⟨u22, t22⟩ : ∃ u, G.tmps.getD 22 undef = u := ⟨_, rfl⟩
  obtain ⟨u23, t23⟩ : ∃ u, G.tmps.getD 23 undef = u := ⟨_, rfl⟩
  obtain ⟨tm, df⟩ := G
  simp only at *
  have hLt := arr_lit4 tm
  rw [hsz] at hLt
  simp only [List.range, List.range.loop, List.map] at hLt
  rw [s0, t1, t2, s3, s4, s5, s6', t7, t8, t9, t10, t11, t12, t13, t14, t15, t16, t17, t18, t19, t20, t21, t22, t23] at hLt
  subst hLt hdf
  clear s0 t1 t2 s3 s4 s5 s6' t7 t8 t9 t10 t11 t12 t13 t14 t15 t16 t17 t18 t19 t20 t21 t22 t23 hsz
  have HML := Lib.hid (fun wx (c : CW w F m [(E, pw v), (w.heap.size + 1, #[.int .u64 0, .int .u64 0, .int .u64 0, .int .u64 0]), (w.heap.size, pw n)] wx) => fmul_any F m n v HN.out.1 HN.out.2 wx c.fld)
  rw [HU.out] at HML
  have HNE := Lib.hid (fun wx => new_run u 1 HUL.out (by omega) wx)
  go_upto_region 2 with (fail)
  by_cases h1 : u = 1
  · rw [show (!decide (u = 1)) = false from by rw [h1]; rfl] at HNE
    refine q_region (CW w F m [(E, pw v), (w.heap.size + 1, #[.int .u64 0, .int .u64 0, .int .u64 0, .int .u64 0]), (w.heap.size, pw n)]) H2.out ?_
    with_reducible refine q_val (.pointer (some ⟨F, 0, none⟩)) (by kernel_rfl) (fun _ _ => by kernel_rfl) ?_
    with_reducible refine q_load 24 (.tmp 3) (.pointer (some ⟨w.heap.size, 0, none⟩)) (.agg (pw n)) rfl (by kernel_rfl) (by kernel_rfl) (fun _ c => ld_pw (c.is _ _ (by simp))) ?_
    with_reducible refine q_load 24 (.tmp 6) (.pointer (some ⟨E, 0, none⟩)) (.agg (pw v)) rfl (by kernel_rfl) (by kernel_rfl) (fun _ c => ld_pw (c.is _ _ (by simp))) ?_
    with_reducible refine q_call 15 #[.pointer (some ⟨F, 0, none⟩), .agg (pw n), .agg (pw v)] (.agg (pw u)) (by kernel_rfl) (fun _ => by kernel_rfl) (CW.calls (fun wx hf => fmul_any F m n v HN.out.1 HN.out.2 wx hf |>.mono fun e w' hh => ⟨by rw [hh.1, HU.out], hh.2⟩)) ?_
    with_reducible refine q_call 30 #[.int .u64 (1 : Nat)] (.agg (pw 1)) (by kernel_rfl) (fun _ => by kernel_rfl) (CW.calls (fun wx _ => of_wv 1 (by omega) wx)) ?_
    with_reducible refine q_bin .neq 24 _ _ 24 (.agg (pw u)) (.agg (pw 1)) (.bool false) rfl (by kernel_rfl) (by kernel_rfl) (by kernel_rfl) (fun _ => by kernel_rfl) (fun w' => HNE.out w') ?_
    with_reducible refine wpQuiet_nil ?_
    intro wx hC
    have HC := Lib.hid hC
    clear hC H2
    simp only [Act.put, List.setIfInBounds_toArray, List.set_cons_succ, List.set_cons_zero]
    go_wp2_with (first | (refine wpList_ld rfl 24 _ rfl (.pointer (some ⟨E, 0, none⟩)) (.agg (pw v)) rfl (ld_pw (by exact HC.out.is _ _ (by simp))) ?_) | (refine wpList_store_row rfl 24 _ _ rfl (w.heap.size + 1) (pw v) rfl rfl 24 (#[.int .u64 0, .int .u64 0, .int .u64 0, .int .u64 0]) (by exact HC.out.is _ _ (by simp)) (by rw [pw_size]; exact infoW4) (by first | rfl | (rw [pw_size]; rfl) | (rw [pw_size, pw_size])) (pw_one _) ?_))
    refine bodyPost_ret (v := .tuple #[.agg (pw v), .bool true]) (res_cell_tmp (p := 4) (u := 5) (vb := .bool true) rfl _ _ (w.heap.size + 1) 24 (pw v) (0, 0) _ rfl rfl (setRow_heap _ _ _ _ _ _ (HC.out.is (w.heap.size + 1) (#[.int .u64 0, .int .u64 0, .int .u64 0, .int .u64 0]) (by simp))) Try.underlying24 rfl (by rw [pw_size]; exact infoW4)) rfl ⟨rfl, below_setRow HC.out.old (by omega) _⟩
  · rw [show (!decide (u = 1)) = true from by simp [h1]] at HNE
    refine q_region (CW w F m [(E, pw v), (w.heap.size + 1, #[.int .u64 0, .int .u64 0, .int .u64 0, .int .u64 0]), (w.heap.size, pw n)]) H2.out ?_
    with_reducible refine q_val (.pointer (some ⟨F, 0, none⟩)) (by kernel_rfl) (fun _ _ => by kernel_rfl) ?_
    with_reducible refine q_load 24 (.tmp 3) (.pointer (some ⟨w.heap.size, 0, none⟩)) (.agg (pw n)) rfl (by kernel_rfl) (by kernel_rfl) (fun _ c => ld_pw (c.is _ _ (by simp))) ?_
    with_reducible refine q_load 24 (.tmp 6) (.pointer (some ⟨E, 0, none⟩)) (.agg (pw v)) rfl (by kernel_rfl) (by kernel_rfl) (fun _ c => ld_pw (c.is _ _ (by simp))) ?_
    with_reducible refine q_call 15 #[.pointer (some ⟨F, 0, none⟩), .agg (pw n), .agg (pw v)] (.agg (pw u)) (by kernel_rfl) (fun _ => by kernel_rfl) (CW.calls (fun wx hf => fmul_any F m n v HN.out.1 HN.out.2 wx hf |>.mono fun e w' hh => ⟨by rw [hh.1, HU.out], hh.2⟩)) ?_
    with_reducible refine q_call 30 #[.int .u64 (1 : Nat)] (.agg (pw 1)) (by kernel_rfl) (fun _ => by kernel_rfl) (CW.calls (fun wx _ => of_wv 1 (by omega) wx)) ?_
    with_reducible refine q_bin .neq 24 _ _ 24 (.agg (pw u)) (.agg (pw 1)) (.bool true) rfl (by kernel_rfl) (by kernel_rfl) (by kernel_rfl) (fun _ => by kernel_rfl) (fun w' => HNE.out w') ?_
    with_reducible refine wpQuiet_nil ?_
    intro wx hC
    have HC := Lib.hid hC
    clear hC H2
    simp only [Act.put, List.setIfInBounds_toArray, List.set_cons_succ, List.set_cons_zero]
    go_wp2_with (refine wpList_store_row rfl 24 _ _ rfl (w.heap.size + 1) (pw 0) rfl rfl 24 (#[.int .u64 0, .int .u64 0, .int .u64 0, .int .u64 0]) (by exact HC.out.is _ _ (by simp)) (by rw [pw_size]; exact infoW4) (by first | rfl | (rw [pw_size]; rfl) | (rw [pw_size, pw_size])) (pw_one _) ?_)
    refine bodyPost_ret (v := .tuple #[.agg (pw 0), .bool false]) (res_cell_tmp (p := 4) (u := 5) (vb := .bool false) rfl _ _ (w.heap.size + 1) 24 (pw 0) (0, 0) _ rfl rfl (setRow_heap _ _ _ _ _ _ (HC.out.is (w.heap.size + 1) (#[.int .u64 0, .int .u64 0, .int .u64 0, .int .u64 0]) (by simp))) Try.underlying24 rfl (by rw [pw_size]; exact infoW4)) rfl ⟨rfl, below_setRow HC.out.old (by omega) _⟩
end Go.Proofs.Ytfgefifplmhopaa
namespace Go.Proofs.Ytfgefifplmhopaa
open Go.RowKit
theorem rem4 (x b : Nat) (h : x % 4 = b) (hx : x < 18446744073709551616) (w : World) : (binOp BinOp.rem 22 (.int .u64 (x : Nat)) (.int .u64 4)).run Try.prog w = .ok (.int .u64 (b : Nat)) w := by
  have hx0 : (0 : Int) ≤ x := by omega
  have e : (x : Int).tmod 4 = (b : Int) := by rw [Int.tmod_eq_emod_of_nonneg hx0]; omega
  have e2 : (x : Int) % 4 = (b : Int) := by omega
  have e3 : IntKind.u64.wrap (b : Int) = (b : Int) := by rw [IntKind.wrap_u64]; omega
  go_simp
theorem pN04 (m : Nat) : pN m 0 % 4 = m % 4 := by rw [pN0 m]; omega
theorem ne3 (b : Nat) (h : ¬ b = 3) (w : World) : (binOp BinOp.neq 22 (.int .u64 (b : Nat)) (.int .u64 3)).run Try.prog w = .ok (.bool true) w := by
  have h1 : ((b : Int) != 3) = true := by rw [bne_iff_ne]; omega
  have h2 : ¬ (b : Int) = 3 := by omega
  go_simp
theorem ld_m0 {w : World} {F m : Nat} (h : FldAt w F m) : (Instr.loadAt 22 (.pointer (some ⟨F, 0, none⟩))).run Try.prog w = .ok (.int .u64 (pN m 0 : Nat)) w := load_u64 _ _ _ _ ((h.cell 0 (by omega)).trans (by unfold frw; rw [if_pos (by omega)]))
set_option maxRecDepth 100000 in
set_option maxHeartbeats 2000000 in
-- WHAT Sqrt COMES TO: no such field.
theorem fsqrt_no (F m n : Nat) (h3 : ¬ m % 4 = 3) (w : World) (hF : FldAt w F m) : Calls Try.prog 28 #[.pointer (some ⟨F, 0, none⟩), .agg (pw n)] w fun e w' => e = .returned (.tuple #[.agg (pw 0), .bool false]) ∧ Below w.heap.size w w' := by
  have H0 := Lib.hid (CW.one hF n)
  obtain ⟨b, hb⟩ : ∃ b, m % 4 = b := ⟨_, rfl⟩
  rw [hb] at h3
  have HR := Lib.hid (rem4 (pN m 0) b ((pN04 m).trans hb) (pN_lt m 0))
  have HNE := Lib.hid (ne3 b h3)
  clear hF h3 hb
  go_enter Try.func28, Try.ntmps28
  go_upto_region 1 with (fail)
  refine q_region (CW w F m [(w.heap.size + 1, #[.int .u64 0, .int .u64 0, .int .u64 0, .int .u64 0]), (w.heap.size, pw n)]) H0.out ?_
  with_reducible refine q_val (.pointer (some ⟨F, 0, none⟩)) (by kernel_rfl) (fun _ _ => by kernel_rfl) ?_
  with_reducible refine q_val (.pointer (some ⟨F, 0, none⟩)) (by kernel_rfl) (fun _ _ => run_nil (.tmp 8) _ rfl (by kernel_rfl)) ?_
  with_reducible refine q_sem2 (Instr.fieldAt 49 (.pointer (some ⟨F, 0, none⟩)) 0) (.pointer (some ⟨F, 0, none⟩)) (by kernel_rfl) (by kernel_rfl) (fun w' _ => fld_at F w') ?_
  with_reducible refine q_sem2 (Instr.indexAt 24 (.pointer (some ⟨F, 0, none⟩)) (.int .i64 (0 : Nat))) (.pointer (some ⟨F, 0, none⟩)) (by kernel_rfl) (by kernel_rfl) (fun w' _ => by kernel_rfl) ?_
  with_reducible refine q_load 22 (.tmp 11) (.pointer (some ⟨F, 0, none⟩)) (.int .u64 (pN m 0 : Nat)) rfl (by kernel_rfl) (by kernel_rfl) (fun _ c => ld_m0 c.fld) ?_
  with_reducible refine q_bin .rem 22 (.tmp 12) _ 22 (.int .u64 (pN m 0 : Nat)) (.int .u64 4) (.int .u64 (b : Nat)) rfl (by kernel_rfl) (by kernel_rfl) (by kernel_rfl) (fun _ => by kernel_rfl) (fun w' => HR.out w') ?_
  with_reducible refine q_bin .neq 22 (.tmp 13) _ 22 (.int .u64 (b : Nat)) (.int .u64 3) (.bool true) rfl (by kernel_rfl) (by kernel_rfl) (by kernel_rfl) (fun _ => by kernel_rfl) (fun w' => HNE.out w') ?_
  with_reducible refine wpQuiet_nil ?_
  intro wx hC
  have HC := Lib.hid hC
  clear hC H0 HR
  simp only [Act.put, List.setIfInBounds_toArray, List.set_cons_succ, List.set_cons_zero]
  go_wp2_with (refine wpList_store_row rfl 24 _ _ rfl (w.heap.size + 1) (pw 0) rfl rfl 24 (#[.int .u64 0, .int .u64 0, .int .u64 0, .int .u64 0]) (by exact HC.out.is _ _ (by simp)) (by rw [pw_size]; exact infoW4) (by first | rfl | (rw [pw_size]; rfl) | (rw [pw_size, pw_size])) (pw_one _) ?_)
  refine bodyPost_ret (v := .tuple #[.agg (pw 0), .bool false]) (res_cell_tmp (p := 4) (u := 5) (vb := .bool false) rfl _ _ (w.heap.size + 1) 24 (pw 0) (0, 0) _ rfl rfl (setRow_heap _ _ _ _ _ _ (HC.out.is (w.heap.size + 1) (#[.int .u64 0, .int .u64 0, .int .u64 0, .int .u64 0]) (by simp))) Try.underlying24 rfl (by rw [pw_size]; exact infoW4)) rfl ⟨rfl, below_setRow HC.out.old (by omega) _⟩
set_option maxRecDepth 100000 in
set_option maxHeartbeats 2000000 in
-- .. and one.
theorem fsqrt_yes (F m n : Nat) (h3 : m % 4 = 3) (ha : n < 115792089237316195423570985008687907853269984665640564039457584007913129639936) (w : World) (hF : FldAt w F m) : Calls Try.prog 28 #[.pointer (some ⟨F, 0, none⟩), .agg (pw n)] w fun e w' => e = .returned (.tuple #[.agg (pw (if n ^ (m / 2 ^ 2 + 1) % m * (n ^ (m / 2 ^ 2 + 1) % m) % m = n % m then n ^ (m / 2 ^ 2 + 1) % m else 0)), .bool (decide (n ^ (m / 2 ^ 2 + 1) % m * (n ^ (m / 2 ^ 2 + 1) % m) % m = n % m))]) ∧ Below w.heap.size w w' := by
  have H0 := Lib.hid (CW.one hF n)
  have HR := Lib.hid (rem4 (pN m 0) 3 ((pN04 m).trans h3) (pN_lt m 0))
  have HSH := Lib.hid (fun wx => shr_pw 2 m (by omega) hF.lt wx)
  have HAD := Lib.hid (fun wx => add_pw (m / 2 ^ 2) 1 wx)
  have hkl : m / 2 ^ 2 + 1 < 115792089237316195423570985008687907853269984665640564039457584007913129639936 := by have := hF.lt; omega
  obtain ⟨k0, hk0⟩ : ∃ k0, m / 2 ^ 2 = k0 := ⟨_, rfl⟩
  rw [hk0] at HSH HAD hkl ⊢
  obtain ⟨k, hk⟩ : ∃ k, k0 + 1 = k := ⟨_, rfl⟩
  rw [hk] at HAD hkl ⊢
  have hvl : n ^ k % m < m := Nat.mod_lt _ (by have := hF.big; omega)
  have HEX := Lib.hid (fun wx (hf : FldAt wx F m) => fexp_any F m n k ha hkl wx hf)
  obtain ⟨v, hv⟩ : ∃ v, n ^ k % m = v := ⟨_, rfl⟩
  rw [hv] at HEX hvl ⊢
  have HML := Lib.hid (fun wx (hf : FldAt wx F m) => fmul_any F m v v (Nat.lt_trans hvl hF.lt) (Nat.lt_trans hvl hF.lt) wx hf)
  have HOF := Lib.hid (fun wx (hf : FldAt wx F m) => fof_any F m n ha wx hf)
  have hul : v * v % m < 115792089237316195423570985008687907853269984665640564039457584007913129639936 := Nat.lt_trans (Nat.mod_lt _ (by omega)) hF.lt
  have htl : n % m < 115792089237316195423570985008687907853269984665640564039457584007913129639936 := Nat.lt_trans (Nat.mod_lt _ (by omega)) hF.lt
  obtain ⟨u, hu⟩ : ∃ u, v * v % m = u := ⟨_, rfl⟩
  obtain ⟨s0, hs0⟩ : ∃ s0, n % m = s0 := ⟨_, rfl⟩
  rw [hu] at HML hul ⊢
  rw [hs0] at HOF htl ⊢
  have HNE := Lib.hid (fun wx => new_run u s0 hul htl wx)
  clear hF ha h3 hk0 hk hkl hvl hv hul htl hu hs0
  go_enter Try.func28, Try.ntmps28
  go_upto_region 1 with (fail)
  refine q_region (CW w F m [(w.heap.size + 1, #[.int .u64 0, .int .u64 0, .int .u64 0, .int .u64 0]), (w.heap.size, pw n)]) H0.out ?_
  with_reducible refine q_val (.pointer (some ⟨F, 0, none⟩)) (by kernel_rfl) (fun _ _ => by kernel_rfl) ?_
  with_reducible refine q_val (.pointer (some ⟨F, 0, none⟩)) (by kernel_rfl) (fun _ _ => run_nil (.tmp 8) _ rfl (by kernel_rfl)) ?_
  with_reducible refine q_sem2 (Instr.fieldAt 49 (.pointer (some ⟨F, 0, none⟩)) 0) (.pointer (some ⟨F, 0, none⟩)) (by kernel_rfl) (by kernel_rfl) (fun w' _ => fld_at F w') ?_
  with_reducible refine q_sem2 (Instr.indexAt 24 (.pointer (some ⟨F, 0, none⟩)) (.int .i64 (0 : Nat))) (.pointer (some ⟨F, 0, none⟩)) (by kernel_rfl) (by kernel_rfl) (fun w' _ => by kernel_rfl) ?_
  with_reducible refine q_load 22 (.tmp 11) (.pointer (some ⟨F, 0, none⟩)) (.int .u64 (pN m 0 : Nat)) rfl (by kernel_rfl) (by kernel_rfl) (fun _ c => ld_m0 c.fld) ?_
  with_reducible refine q_bin .rem 22 (.tmp 12) _ 22 (.int .u64 (pN m 0 : Nat)) (.int .u64 4) (.int .u64 (3 : Nat)) rfl (by kernel_rfl) (by kernel_rfl) (by kernel_rfl) (fun _ => by kernel_rfl) (fun w' => HR.out w') ?_
  with_reducible refine q_bin .neq 22 (.tmp 13) _ 22 (.int .u64 (3 : Nat)) (.int .u64 3) (.bool false) rfl (by kernel_rfl) (by kernel_rfl) (by kernel_rfl) (fun _ => by kernel_rfl) (fun w' => (by kernel_rfl)) ?_
  with_reducible refine wpQuiet_nil ?_
  intro wx hC
  have HC := Lib.hid hC
  clear hC H0 HR
  simp only [Act.put, List.setIfInBounds_toArray, List.set_cons_succ, List.set_cons_zero]
  go_wp2_with fail
  refine region_tie (CW w F m [(w.heap.size + 1, #[.int .u64 0, .int .u64 0, .int .u64 0, .int .u64 0]), (w.heap.size, pw n)]) (fun i s wx => match i with | 0 => s 16 = (.agg (pw 2)) | 1 => s 17 = (.pointer (some ⟨F, 0, none⟩)) | 2 => s 18 = (.pointer (some ⟨F, 0, none⟩)) | 3 => s 19 = (.pointer (some ⟨F, 0, none⟩)) | 4 => s 20 = (.agg (pw m)) | 5 => s 21 = (.agg (pw k0)) | 6 => s 22 = (.agg (pw 1)) | 7 => s 23 = (.agg (pw k)) | 8 => ∃ D, s 6 = .pointer (some ⟨D, 0, none⟩) ∧ (w.heap.size + 2) ≤ D ∧ ∃ cs : Array Value, wx.heap[D]? = some (.cells cs 24 (0, 0)) ∧ cs.size = 4 | 9 => ∃ D, s 6 = .pointer (some ⟨D, 0, none⟩) ∧ (w.heap.size + 2) ≤ D ∧ wx.heap[D]? = some (.cells (FW k 24) 24 (0, 0)) | _ => True) (RT (w.heap.size + 2) (FW k)) (fun i => match i with | 0 => [16] | 1 => [17] | 2 => [18] | 3 => [19] | 4 => [20] | 5 => [21] | 6 => [22] | 7 => [23] | 8 => [6] | 9 => [6] | _ => []) (fun i => i) (by kernel_rfl) (by kernel_rfl) HC.out.drew ?_ ?_ ?_ ?_
  · intro i s s' wx he hp
    match i, he, hp with
    | 0, he, hp => exact (he 16 (by simp)).symm.trans hp
    | 1, he, hp => exact (he 17 (by simp)).symm.trans hp
    | 2, he, hp => exact (he 18 (by simp)).symm.trans hp
    | 3, he, hp => exact (he 19 (by simp)).symm.trans hp
    | 4, he, hp => exact (he 20 (by simp)).symm.trans hp
    | 5, he, hp => exact (he 21 (by simp)).symm.trans hp
    | 6, he, hp => exact (he 22 (by simp)).symm.trans hp
    | 7, he, hp => exact (he 23 (by simp)).symm.trans hp
    | 8, he, hp => obtain ⟨D, h1, h2⟩ := hp; exact ⟨D, (he 6 (by simp)).symm.trans h1, h2⟩
    | 9, he, hp => obtain ⟨D, h1, h2⟩ := hp; exact ⟨D, (he 6 (by simp)).symm.trans h1, h2⟩
    | _ + 10, _, _ => trivial
  · intro i s wa wb hR hp
    match i, hp with
    | 0, hp => exact hp
    | 1, hp => exact hp
    | 2, hp => exact hp
    | 3, hp => exact hp
    | 4, hp => exact hp
    | 5, hp => exact hp
    | 6, hp => exact hp
    | 7, hp => exact hp
    | 8, hp => obtain ⟨D, h1, h2, cs, h3, h4⟩ := hp; obtain ⟨cs', h5, h6⟩ := hR.shape _ _ _ _ h3; exact ⟨D, h1, h2, cs', h5, h6.trans h4⟩
    | 9, hp => obtain ⟨D, h1, h2, h3⟩ := hp; exact ⟨D, h1, h2, hR.keep _ _ _ h3⟩
    | _ + 10, _ => trivial
  · refine ⟨?_, ?_, ?_, ?_, ?_, ?_, ?_, ?_, ?_, ?_, trivial⟩
    · intro a wx hC hsz hK
      refine tt_call 30 #[(.int .u64 (2 : Nat))] (by kernel_rfl) (by kernel_rfl) ?_
      exact (of_wv 2 (by omega) wx).mono fun e w' hh => ⟨_, hh.1, hC.below hh.2, (slots_put _ _ _ (by rw [hsz]; exact of_decide_eq_true (by kernel_rfl))), RT.of hC.high2 hh.2⟩
    · intro a wx hC hsz hK
      have h0 : a.tmps.getD 0 undef = (.pointer (some ⟨F, 0, none⟩)) := hK.1 0 (by kernel_rfl)
      exact tt_val ((.pointer (some ⟨F, 0, none⟩))) (by kernel_rfl) (by rw [← h0]; kernel_rfl) hC (slots_put _ _ _ (by rw [hsz]; exact of_decide_eq_true (by kernel_rfl))) (RT.refl _ _ _)
    · intro a wx hC hsz hK
      have h0 : a.tmps.getD 17 undef = (.pointer (some ⟨F, 0, none⟩)) := hK.2 ⟨1, .data⟩ (by simp) rfl _ rfl
      exact tt_val (.pointer (some ⟨F, 0, none⟩)) (by kernel_rfl) (run_nil (.tmp 17) _ rfl (by rw [← h0]; kernel_rfl)) hC (slots_put _ _ _ (by rw [hsz]; exact of_decide_eq_true (by kernel_rfl))) (RT.refl _ _ _)
    · intro a wx hC hsz hK
      have h0 : a.tmps.getD 18 undef = (.pointer (some ⟨F, 0, none⟩)) := hK.2 ⟨2, .data⟩ (by simp) rfl _ rfl
      refine tt_v (Instr.fieldAt 49 (a.tmps.getD 18 undef) 0) ((.pointer (some ⟨F, 0, none⟩))) (by kernel_rfl) (by kernel_rfl) ?_ hC (slots_put _ _ _ (by rw [hsz]; exact of_decide_eq_true (by kernel_rfl))) (RT.refl _ _ _)
      rw [h0]
      exact fld_at F wx
    · intro a wx hC hsz hK
      have h0 : a.tmps.getD 19 undef = (.pointer (some ⟨F, 0, none⟩)) := hK.2 ⟨3, .data⟩ (by simp) rfl _ rfl
      exact tt_load 24 (.tmp 19) ((.pointer (some ⟨F, 0, none⟩))) ((.agg (pw m))) rfl (by kernel_rfl) h0 (ld_m hC.fld) hC (slots_put _ _ _ (by rw [hsz]; exact of_decide_eq_true (by kernel_rfl))) (RT.refl _ _ _)
    · intro a wx hC hsz hK
      have h0 : a.tmps.getD 16 undef = (.agg (pw 2)) := hK.2 ⟨0, .data⟩ (by simp) rfl _ rfl
      have h1 : a.tmps.getD 20 undef = (.agg (pw m)) := hK.2 ⟨4, .data⟩ (by simp) rfl _ rfl
      refine tt_call 55 #[a.tmps.getD 16 undef, a.tmps.getD 20 undef] (by kernel_rfl) (by kernel_rfl) ?_
      rw [h0, h1]
      exact (HSH.out wx).mono fun e w' hh => ⟨_, hh.1, hC.below hh.2, (slots_put _ _ _ (by rw [hsz]; exact of_decide_eq_true (by kernel_rfl))), RT.of hC.high2 hh.2⟩
    · intro a wx hC hsz hK
      refine tt_call 30 #[(.int .u64 (1 : Nat))] (by kernel_rfl) (by kernel_rfl) ?_
      exact (of_wv 1 (by omega) wx).mono fun e w' hh => ⟨_, hh.1, hC.below hh.2, (slots_put _ _ _ (by rw [hsz]; exact of_decide_eq_true (by kernel_rfl))), RT.of hC.high2 hh.2⟩
    · intro a wx hC hsz hK
      have h0 : a.tmps.getD 21 undef = (.agg (pw k0)) := hK.2 ⟨5, .data⟩ (by simp) rfl _ rfl
      have h1 : a.tmps.getD 22 undef = (.agg (pw 1)) := hK.2 ⟨6, .data⟩ (by simp) rfl _ rfl
      refine tt_call 38 #[a.tmps.getD 21 undef, a.tmps.getD 22 undef] (by kernel_rfl) (by kernel_rfl) ?_
      rw [h0, h1]
      exact (HAD.out wx).mono fun e w' hh => ⟨_, hh.1, hC.below hh.2, (slots_put _ _ _ (by rw [hsz]; exact of_decide_eq_true (by kernel_rfl))), RT.of hC.high2 hh.2⟩
    · intro a wx hC hsz hK
      exact tt_new (.pointer (some ⟨wx.heap.size, 0, none⟩)) (by kernel_rfl) (by kernel_rfl) (hC.below ((Below.refl _ _).alloc (Nat.le_refl _) _)) ⟨_, (slots_put _ _ _ (by rw [hsz]; exact of_decide_eq_true (by kernel_rfl))), hC.high2, #[.int .u64 0, .int .u64 0, .int .u64 0, .int .u64 0], heap_alloc_new _ _, rfl⟩ (RT.of hC.high2 ((Below.refl _ _).alloc (Nat.le_refl _) _))
    · intro a wx hC hsz hK
      obtain ⟨D, h1, h2, cs, h3, h4⟩ := hK.2 ⟨8, .data⟩ (by simp) rfl _ rfl
      have h0 : a.tmps.getD 23 undef = (.agg (pw k)) := hK.2 ⟨7, .data⟩ (by simp) rfl _ rfl
      exact tt_store (by kernel_rfl) rfl (run_store 24 (.tmp 6) (.tmp 23) _ _ rfl h1 h0 (store_w h4 h3)) (hC.rowed2 h2) ⟨D, h1, h2, setRow_heap _ _ _ _ _ _ h3⟩ (RT.row h2 h3 (by rw [h4]; rfl))
  intro f1 w5 hC hf1
  obtain ⟨E, s6, hE, hrE⟩ := hf1 9 _ rfl
  have H2 := Lib.hid (show CW w F m [(E, pw k), (w.heap.size + 1, #[.int .u64 0, .int .u64 0, .int .u64 0, .int .u64 0]), (w.heap.size, pw n)] w5 from ⟨hC.old, hC.fld, hC.hF, fun p hp => by
    rcases List.mem_cons.1 hp with rfl | hp
    · exact hrE
    · exact hC.rows p hp⟩)
  clear hC hE hrE HC HSH HAD
  generalize hAct : putAll _ _ _ = G at *
  have s0' : G.tmps.getD 0 undef = .pointer (some ⟨F, 0, none⟩) := by subst hAct; kernel_rfl
  have s3 : G.tmps.getD 3 undef = .pointer (some ⟨w.heap.size, 0, none⟩) := by subst hAct; kernel_rfl
  have s4 : G.tmps.getD 4 undef = .pointer (some ⟨w.heap.size + 1, 0, none⟩) := by subst hAct; kernel_rfl
  have s5 : G.tmps.getD 5 undef = .bool false := by subst hAct; kernel_rfl
  have s6' : G.tmps.getD 6 undef = .pointer (some ⟨E, 0, none⟩) := s6
  have hsz : G.tmps.size = 38 := by rw [← hAct, putAll_size]; rfl
  have hdf : G.defers = [] := by subst hAct; kernel_rfl
  clear hAct s6 hf1
  obtain ⟨u1, t1⟩ : ∃ u, G.tmps.getD 1 undef = u := ⟨_, rfl⟩
  obtain ⟨u2, t2⟩ : ∃ u, G.tmps.getD 2 undef = u := ⟨_, rfl⟩
  obtain ⟨u7, t7⟩ : ∃ u, G.tmps.getD 7 undef = u := ⟨_, rfl⟩
  obtain ⟨u8, t8⟩ : ∃ u, G.tmps.getD 8 undef = u := ⟨_, rfl⟩
  obtain ⟨u9, t9⟩ : ∃ u, G.tmps.getD 9 undef = u := ⟨_, rfl⟩
  obtain ⟨u10, t10⟩ : ∃ u, G.tmps.getD 10 undef = u := ⟨_, rfl⟩
  obtain ⟨u11, t11⟩ : ∃ u, G.tmps.getD 11 undef = u := ⟨_, rfl⟩
  obtain ⟨u12, t12⟩ : ∃ u, G.tmps.getD 12 undef = u := ⟨_, rfl⟩
  obtain ⟨u13, t13⟩ : ∃ u, G.tmps.getD 13 undef = u := ⟨_, rfl⟩
  obtain ⟨u14, t14⟩ : ∃ u, G.tmps.getD 14 undef = u := ⟨_, rfl⟩
  obtain ⟨u15, t15⟩ : ∃ u, G.tmps.getD 15 undef = u := ⟨_, rfl⟩
  obtain ⟨u16, t16⟩ : ∃ u, G.tmps.getD 16 undef = u := ⟨_, rfl⟩
  obtain ⟨u17, t17⟩ : ∃ u, G.tmps.getD 17 undef = u := ⟨_, rfl⟩
  obtain ⟨u18, t18⟩ : ∃ u, G.tmps.getD 18 undef = u := ⟨_, rfl⟩
  obtain ⟨u19, t19⟩ : ∃ u, G.tmps.getD 19 undef = u := ⟨_, rfl⟩
  obtain ⟨u20, t20⟩ : ∃ u, G.tmps.getD 20 undef = u := ⟨_, rfl⟩
  obtain ⟨u21, t21⟩ : ∃ u, G.tmps.getD 21 undef = u := ⟨_, rfl⟩
  obtain ⟨u22, t22⟩ : ∃ u, G.tmps.getD 22 undef = u := ⟨_, rfl⟩
  obtain ⟨u23, t23⟩ : ∃ u, G.tmps.getD 23 undef = u := ⟨_, rfl⟩
  obtain ⟨u24, t24⟩ : ∃ u, G.tmps.getD 24 undef = u := ⟨_, rfl⟩
  obtain ⟨u25, t25⟩ : ∃ u, G.tmps.getD 25 undef = u := ⟨_, rfl⟩
  obtain ⟨u26, t26⟩ : ∃ u, G.tmps.getD 26 undef = u := ⟨_, rfl⟩
  obtain ⟨u27, t27⟩ : ∃ u, G.tmps.getD 27 undef = u := ⟨_, rfl⟩
  obtain ⟨u28, t28⟩ : ∃ u, G.tmps.getD 28 undef = u := ⟨_, rfl⟩
  obtain ⟨u29, t29⟩ : ∃ u, G.tmps.getD 29 undef = u := ⟨_, rfl⟩
  obtain ⟨u30, t30⟩ : ∃ u, G.tmps.getD 30 undef = u := ⟨_, rfl⟩
  obtain ⟨u31, t31⟩ : ∃ u, G.tmps.getD 31 undef = u := ⟨_, rfl⟩
  obtain ⟨u32, t32⟩ : ∃ u, G.tmps.getD 32 undef = u := ⟨_, rfl⟩
  obtain ⟨u33, t33⟩ : ∃ u, G.tmps.getD 33 undef = u := ⟨_, rfl⟩
  obtain ⟨u34, t34⟩ : ∃ u, G.tmps.getD 34 undef = u := ⟨_, rfl⟩
  obtain ⟨u35, t35⟩ : ∃ u, G.tmps.getD 35 undef = u := ⟨_, rfl⟩
  obtain ⟨u36, t36⟩ : ∃ u, G.tmps.getD 36 undef = u := ⟨_, rfl⟩
  obtain ⟨u37, t37⟩ : ∃ u, G.tmps.getD 37 undef = u := ⟨_, rfl⟩
  obtain ⟨tm, df⟩ := G
  simp only at *
  have hLt := arr_lit4 tm
  rw [hsz] at hLt
  simp only [List.range, List.range.loop, List.map] at hLt
  rw [s0', t1, t2, s3, s4, s5, s6', t7, t8, t9, t10, t11, t12, t13, t14, t15, t16, t17, t18, t19, t20, t21, t22, t23, t24, t25, t26, t27, t28, t29, t30, t31, t32, t33, t34, t35, t36, t37] at hLt
  subst hLt hdf
  clear s0' t1 t2 s3 s4 s5 s6' t7 t8 t9 t10 t11 t12 t13 t14 t15 t16 t17 t18 t19 t20 t21 t22 t23 t24 t25 t26 t27 t28 t29 t30 t31 t32 t33 t34 t35 t36 t37 hsz
  go_wp2_with (first | (refine wpList_ld rfl 24 _ rfl (.pointer (some ⟨w.heap.size, 0, none⟩)) (.agg (pw n)) rfl (ld_pw (by exact H2.out.is _ _ (by simp))) ?_) | (refine wpList_ld rfl 24 _ rfl (.pointer (some ⟨E, 0, none⟩)) (.agg (pw k)) rfl (ld_pw (by exact H2.out.is _ _ (by simp))) ?_))
  refine (HEX.out _ H2.out.fld).mono ?_
  rintro e w6 ⟨rfl, hb6⟩
  have c6 := H2.out.below hb6
  have HV0 := Lib.hid (heap_alloc_new w6 (.cells (#[.int .u64 0, .int .u64 0, .int .u64 0, .int .u64 0]) 24))
  have H3 := Lib.hid (show CW w F m [(w6.heap.size, pw v), (w.heap.size + 1, #[.int .u64 0, .int .u64 0, .int .u64 0, .int .u64 0]), (w.heap.size, pw n)] ((w6.alloc (.cells (#[.int .u64 0, .int .u64 0, .int .u64 0, .int .u64 0]) 24)).setRow w6.heap.size (pw v)) from by
    have h1 : w.heap.size + 1 < w6.heap.size := (Array.getElem?_eq_some_iff.1 (c6.is (w.heap.size + 1) (#[.int .u64 0, .int .u64 0, .int .u64 0, .int .u64 0]) (by simp))).1
    exact (c6.new (#[.int .u64 0, .int .u64 0, .int .u64 0, .int .u64 0])).put w6.heap.size (#[.int .u64 0, .int .u64 0, .int .u64 0, .int .u64 0]) (pw v) _ c6.old.size (by simp) (fun p hp => by
      simp only [List.mem_cons, List.not_mem_nil, or_false] at hp
      rcases hp with rfl | rfl
      · exact ⟨by simp, by show w.heap.size + 1 ≠ _; omega⟩
      · exact ⟨by simp, by show w.heap.size ≠ _; omega⟩))
  clear c6 hb6 HEX
  go_wp2_with (refine wpList_store_row rfl 24 _ _ rfl w6.heap.size (pw v) rfl rfl 24 (#[.int .u64 0, .int .u64 0, .int .u64 0, .int .u64 0]) (by exact HV0.out) (by rw [pw_size]; exact infoW4) (by rw [pw_size]; rfl) (pw_one _) ?_)
  obtain ⟨w7, hw7⟩ : ∃ w7, (w6.alloc (.cells (#[.int .u64 0, .int .u64 0, .int .u64 0, .int .u64 0]) 24)).setRow w6.heap.size (pw v) = w7 := ⟨_, rfl⟩
  obtain ⟨g, hg⟩ : ∃ g, w6.heap.size = g := ⟨_, rfl⟩
  rw [hw7, hg] at H3
  rw [hw7, hg]
  clear hw7 hg HV0 H2
  by_cases h1 : u = s0
  · rw [show (!decide (u = s0)) = false from by simp [h1]] at HNE
    refine wp_region_quiet (C := CW w F m [(g, pw v), (w.heap.size + 1, #[.int .u64 0, .int .u64 0, .int .u64 0, .int .u64 0]), (w.heap.size, pw n)]) (by kernel_rfl) (by kernel_rfl) (H3.out.drew) ?_
    simp only
    with_reducible refine q_val (.pointer (some ⟨F, 0, none⟩)) (by kernel_rfl) (fun _ _ => by kernel_rfl) ?_
    with_reducible refine q_load 24 (.tmp 7) (.pointer (some ⟨g, 0, none⟩)) (.agg (pw v)) rfl (by kernel_rfl) (by kernel_rfl) (fun _ c => ld_pw (c.is _ _ (by simp))) ?_
    with_reducible refine q_load 24 (.tmp 7) (.pointer (some ⟨g, 0, none⟩)) (.agg (pw v)) rfl (by kernel_rfl) (by kernel_rfl) (fun _ c => ld_pw (c.is _ _ (by simp))) ?_
    with_reducible refine q_call 15 #[.pointer (some ⟨F, 0, none⟩), .agg (pw v), .agg (pw v)] (.agg (pw u)) (by kernel_rfl) (fun _ => by kernel_rfl) (CW.calls HML.out) ?_
    with_reducible refine q_val (.pointer (some ⟨F, 0, none⟩)) (by kernel_rfl) (fun _ _ => by kernel_rfl) ?_
    with_reducible refine q_load 24 (.tmp 3) (.pointer (some ⟨w.heap.size, 0, none⟩)) (.agg (pw n)) rfl (by kernel_rfl) (by kernel_rfl) (fun _ c => ld_pw (c.is _ _ (by simp))) ?_
    with_reducible refine q_call 13 #[.pointer (some ⟨F, 0, none⟩), .agg (pw n)] (.agg (pw s0)) (by kernel_rfl) (fun _ => by kernel_rfl) (CW.calls HOF.out) ?_
    with_reducible refine q_bin .neq 24 _ _ 24 (.agg (pw u)) (.agg (pw s0)) (.bool false) rfl (by kernel_rfl) (by kernel_rfl) (by kernel_rfl) (fun _ => by kernel_rfl) (fun w' => HNE.out w') ?_
    with_reducible refine wpQuiet_nil ?_
    intro wx hC
    have HC := Lib.hid hC
    clear hC H3
    simp only [Act.put, List.setIfInBounds_toArray, List.set_cons_succ, List.set_cons_zero]
    go_wp2_with (first | (refine wpList_ld rfl 24 _ rfl (.pointer (some ⟨g, 0, none⟩)) (.agg (pw v)) rfl (ld_pw (by exact HC.out.is _ _ (by simp))) ?_) | (refine wpList_store_row rfl 24 _ _ rfl (w.heap.size + 1) (pw v) rfl rfl 24 (#[.int .u64 0, .int .u64 0, .int .u64 0, .int .u64 0]) (by exact HC.out.is _ _ (by simp)) (by rw [pw_size]; exact infoW4) (by first | rfl | (rw [pw_size]; rfl) | (rw [pw_size, pw_size])) (pw_one _) ?_))
    refine bodyPost_ret (v := .tuple #[.agg (pw v), .bool true]) (res_cell_tmp (p := 4) (u := 5) (vb := .bool true) rfl _ _ (w.heap.size + 1) 24 (pw v) (0, 0) _ rfl rfl (setRow_heap _ _ _ _ _ _ (HC.out.is (w.heap.size + 1) (#[.int .u64 0, .int .u64 0, .int .u64 0, .int .u64 0]) (by simp))) Try.underlying24 rfl (by rw [pw_size]; exact infoW4)) rfl ⟨rfl, below_setRow HC.out.old (by omega) _⟩
  · rw [show (!decide (u = s0)) = true from by simp [h1]] at HNE
    refine wp_region_quiet (C := CW w F m [(g, pw v), (w.heap.size + 1, #[.int .u64 0, .int .u64 0, .int .u64 0, .int .u64 0]), (w.heap.size, pw n)]) (by kernel_rfl) (by kernel_rfl) (H3.out.drew) ?_
    simp only
    with_reducible refine q_val (.pointer (some ⟨F, 0, none⟩)) (by kernel_rfl) (fun _ _ => by kernel_rfl) ?_
    with_reducible refine q_load 24 (.tmp 7) (.pointer (some ⟨g, 0, none⟩)) (.agg (pw v)) rfl (by kernel_rfl) (by kernel_rfl) (fun _ c => ld_pw (c.is _ _ (by simp))) ?_
    with_reducible refine q_load 24 (.tmp 7) (.pointer (some ⟨g, 0, none⟩)) (.agg (pw v)) rfl (by kernel_rfl) (by kernel_rfl) (fun _ c => ld_pw (c.is _ _ (by simp))) ?_
    with_reducible refine q_call 15 #[.pointer (some ⟨F, 0, none⟩), .agg (pw v), .agg (pw v)] (.agg (pw u)) (by kernel_rfl) (fun _ => by kernel_rfl) (CW.calls HML.out) ?_
    with_reducible refine q_val (.pointer (some ⟨F, 0, none⟩)) (by kernel_rfl) (fun _ _ => by kernel_rfl) ?_
    with_reducible refine q_load 24 (.tmp 3) (.pointer (some ⟨w.heap.size, 0, none⟩)) (.agg (pw n)) rfl (by kernel_rfl) (by kernel_rfl) (fun _ c => ld_pw (c.is _ _ (by simp))) ?_
    with_reducible refine q_call 13 #[.pointer (some ⟨F, 0, none⟩), .agg (pw n)] (.agg (pw s0)) (by kernel_rfl) (fun _ => by kernel_rfl) (CW.calls HOF.out) ?_
    with_reducible refine q_bin .neq 24 _ _ 24 (.agg (pw u)) (.agg (pw s0)) (.bool true) rfl (by kernel_rfl) (by kernel_rfl) (by kernel_rfl) (fun _ => by kernel_rfl) (fun w' => HNE.out w') ?_
    with_reducible refine wpQuiet_nil ?_
    intro wx hC
    have HC := Lib.hid hC
    clear hC H3
    simp only [Act.put, List.setIfInBounds_toArray, List.set_cons_succ, List.set_cons_zero]
    go_wp2_with (refine wpList_store_row rfl 24 _ _ rfl (w.heap.size + 1) (pw 0) rfl rfl 24 (#[.int .u64 0, .int .u64 0, .int .u64 0, .int .u64 0]) (by exact HC.out.is _ _ (by simp)) (by rw [pw_size]; exact infoW4) (by first | rfl | (rw [pw_size]; rfl) | (rw [pw_size, pw_size])) (pw_one _) ?_)
    refine bodyPost_ret (v := .tuple #[.agg (pw 0), .bool false]) (res_cell_tmp (p := 4) (u := 5) (vb := .bool false) rfl _ _ (w.heap.size + 1) 24 (pw 0) (0, 0) _ rfl rfl (setRow_heap _ _ _ _ _ _ (HC.out.is (w.heap.size + 1) (#[.int .u64 0, .int .u64 0, .int .u64 0, .int .u64 0]) (by simp))) Try.underlying24 rfl (by rw [pw_size]; exact infoW4)) rfl ⟨rfl, below_setRow HC.out.old (by omega) _⟩
end Go.Proofs.Ytfgefifplmhopaa
namespace Go.Proofs.Ytfgefifplmhopaa
open Go.RowKit
theorem lit7 : pw 7 = #[.int .u64 7, .int .u64 0, .int .u64 0, .int .u64 0] := by kernel_rfl
theorem lit3 : pw 3 = #[.int .u64 3, .int .u64 0, .int .u64 0, .int .u64 0] := by kernel_rfl
theorem lit2 : pw 2 = #[.int .u64 2, .int .u64 0, .int .u64 0, .int .u64 0] := by kernel_rfl
theorem lit5 : pw 5 = #[.int .u64 5, .int .u64 0, .int .u64 0, .int .u64 0] := by kernel_rfl
theorem lit4 : pw 4 = #[.int .u64 4, .int .u64 0, .int .u64 0, .int .u64 0] := by kernel_rfl
/-- The worlds of lives. -/
structure CL7 (w : World) (g h : Nat) (wx : World) : Prop where
  old : Below w.heap.size w wx
  rg : wx.heap[g]? = some (.cells (pw 5) 24 (0, 0))
  rh : wx.heap[h]? = some (.cells (pw 4) 24 (0, 0))
set_option maxRecDepth 100000 in
set_option maxHeartbeats 2000000 in
-- WHAT lives COMES TO.
theorem flives_any (w : World) : Calls Try.prog 10 #[] w fun e w' => e = .returned (.bool true) ∧ Below w.heap.size w w' := by
  have HNW := Lib.hid (fun wx => fnew_some 7 (by omega) (by omega) (by omega) wx)
  have HIN := Lib.hid (fun F wx (hf : FldAt wx F 7) => finv_any F 7 3 (by omega) wx hf)
  have HSQ := Lib.hid (fun F wx (hf : FldAt wx F 7) => fsqrt_yes F 7 2 (by omega) (by omega) wx hf)
  rw [lit7] at HNW
  rw [show (if 3 * (3 ^ (7 - 2) % 7) % 7 = 1 then 3 ^ (7 - 2) % 7 else 0) = 5 from by decide, show decide (3 * (3 ^ (7 - 2) % 7) % 7 = 1) = true from by decide, lit3] at HIN
  rw [show (if 2 ^ (7 / 2 ^ 2 + 1) % 7 * (2 ^ (7 / 2 ^ 2 + 1) % 7) % 7 = 2 % 7 then 2 ^ (7 / 2 ^ 2 + 1) % 7 else 0) = 4 from by decide, show decide (2 ^ (7 / 2 ^ 2 + 1) % 7 * (2 ^ (7 / 2 ^ 2 + 1) % 7) % 7 = 2 % 7) = true from by decide, lit2] at HSQ
  go_enter Try.func10, Try.ntmps10
  go_wp2_with fail
  refine (HNW.out _).mono ?_
  rintro e w1 ⟨F, rfl, hF, hs, hb1⟩
  have H1 := Lib.hid (And.intro hF hb1)
  clear hF hs hb1 HNW
  go_wp2_with fail
  refine (HIN.out F _ H1.out.1).mono ?_
  rintro e w2 ⟨rfl, hb2⟩
  have G2 := Lib.hid (heap_alloc_new w2 (.cells (#[.int .u64 0, .int .u64 0, .int .u64 0, .int .u64 0]) 24))
  have H2 := Lib.hid (show FldAt ((w2.alloc (.cells (#[.int .u64 0, .int .u64 0, .int .u64 0, .int .u64 0]) 24)).setRow w2.heap.size (pw 5)) F 7 ∧ Below w.heap.size w ((w2.alloc (.cells (#[.int .u64 0, .int .u64 0, .int .u64 0, .int .u64 0]) 24)).setRow w2.heap.size (pw 5)) ∧ ((w2.alloc (.cells (#[.int .u64 0, .int .u64 0, .int .u64 0, .int .u64 0]) 24)).setRow w2.heap.size (pw 5)).heap[w2.heap.size]? = some (.cells (pw 5) 24 (0, 0)) from by
    have f2 := H1.out.1.below hb2
    have b2 := H1.out.2.trans (hb2.mono H1.out.2.size)
    have hb3 : Below w2.heap.size w2 ((w2.alloc (.cells (#[.int .u64 0, .int .u64 0, .int .u64 0, .int .u64 0]) 24)).setRow w2.heap.size (pw 5)) := below_setRow ((Below.refl _ _).alloc (Nat.le_refl _) _) (Nat.le_refl _) _
    exact ⟨f2.below hb3, b2.trans (hb3.mono b2.size), setRow_heap _ _ _ _ _ _ (heap_alloc_new _ _)⟩)
  clear hb2 H1 HIN
  go_wp2_with (refine wpList_store_row rfl 24 _ _ rfl w2.heap.size (pw 5) rfl rfl 24 (#[.int .u64 0, .int .u64 0, .int .u64 0, .int .u64 0]) (by exact G2.out) (by rw [pw_size]; exact infoW4) (by rw [pw_size]; rfl) (pw_one _) ?_)
  obtain ⟨w3, hw3⟩ : ∃ w3, (w2.alloc (.cells (#[.int .u64 0, .int .u64 0, .int .u64 0, .int .u64 0]) 24)).setRow w2.heap.size (pw 5) = w3 := ⟨_, rfl⟩
  obtain ⟨g, hg⟩ : ∃ g, w2.heap.size = g := ⟨_, rfl⟩
  rw [hw3, hg] at H2
  rw [hw3, hg]
  clear hw3 hg G2
  refine (HSQ.out F _ H2.out.1).mono ?_
  rintro e w4 ⟨rfl, hb4⟩
  have G4 := Lib.hid (heap_alloc_new w4 (.cells (#[.int .u64 0, .int .u64 0, .int .u64 0, .int .u64 0]) 24))
  have H4 := Lib.hid (show CL7 w g w4.heap.size ((w4.alloc (.cells (#[.int .u64 0, .int .u64 0, .int .u64 0, .int .u64 0]) 24)).setRow w4.heap.size (pw 4)) from by
    have b2 := H2.out.2.1.trans (hb4.mono H2.out.2.1.size)
    have hb3 : Below w4.heap.size w4 ((w4.alloc (.cells (#[.int .u64 0, .int .u64 0, .int .u64 0, .int .u64 0]) 24)).setRow w4.heap.size (pw 4)) := below_setRow ((Below.refl _ _).alloc (Nat.le_refl _) _) (Nat.le_refl _) _
    have hr := (hb4.block _ (Array.getElem?_eq_some_iff.1 H2.out.2.2).1).trans H2.out.2.2
    exact ⟨b2.trans (hb3.mono b2.size), (hb3.block _ (Array.getElem?_eq_some_iff.1 hr).1).trans hr, setRow_heap _ _ _ _ _ _ (heap_alloc_new _ _)⟩)
  clear hb4 H2 HSQ
  go_upto_region 6 with (refine wpList_store_row rfl 24 _ _ rfl w4.heap.size (pw 4) rfl rfl 24 (#[.int .u64 0, .int .u64 0, .int .u64 0, .int .u64 0]) (by exact G4.out) (by rw [pw_size]; exact infoW4) (by rw [pw_size]; rfl) (pw_one _) ?_)
  obtain ⟨w5, hw5⟩ : ∃ w5, (w4.alloc (.cells (#[.int .u64 0, .int .u64 0, .int .u64 0, .int .u64 0]) 24)).setRow w4.heap.size (pw 4) = w5 := ⟨_, rfl⟩
  obtain ⟨h, hh⟩ : ∃ h, w4.heap.size = h := ⟨_, rfl⟩
  rw [hw5, hh] at H4
  rw [hw5, hh]
  clear hw5 hh G4
  refine q_region (CL7 w g h) H4.out ?_
  with_reducible refine q_load 24 (.tmp 3) (.pointer (some ⟨g, 0, none⟩)) (.agg (pw 5)) rfl (by kernel_rfl) (by kernel_rfl) (fun _ c => ld_pw c.rg) ?_
  with_reducible refine q_val (.agg #[.int .u64 5, .int .u64 0, .int .u64 0, .int .u64 0]) (by kernel_rfl) (fun _ _ => by kernel_rfl) ?_
  with_reducible refine q_bin .eql 24 _ _ 24 (.agg (pw 5)) (.agg #[.int .u64 5, .int .u64 0, .int .u64 0, .int .u64 0]) (.bool true) rfl (by kernel_rfl) (by kernel_rfl) (by kernel_rfl) (fun _ => by kernel_rfl) (fun w' => (by rw [← lit5]; exact (eqw_run 5 5 (by omega) (by omega) w').trans (by rw [decide_eq_true rfl]))) ?_
  with_reducible refine q_val (.bool true) (by kernel_rfl) (fun _ _ => by kernel_rfl) ?_
  with_reducible refine q_val (.bool true) (by kernel_rfl) (fun _ _ => by kernel_rfl) ?_
  with_reducible refine q_val (.bool true) (by kernel_rfl) (fun _ _ => by kernel_rfl) ?_
  with_reducible refine q_val (.bool true) (by kernel_rfl) (fun _ _ => by kernel_rfl) ?_
  with_reducible refine q_load 24 (.tmp 5) (.pointer (some ⟨h, 0, none⟩)) (.agg (pw 4)) rfl (by kernel_rfl) (by kernel_rfl) (fun _ c => ld_pw c.rh) ?_
  with_reducible refine q_val (.agg #[.int .u64 4, .int .u64 0, .int .u64 0, .int .u64 0]) (by kernel_rfl) (fun _ _ => by kernel_rfl) ?_
  with_reducible refine q_bin .eql 24 _ _ 24 (.agg (pw 4)) (.agg #[.int .u64 4, .int .u64 0, .int .u64 0, .int .u64 0]) (.bool true) rfl (by kernel_rfl) (by kernel_rfl) (by kernel_rfl) (fun _ => by kernel_rfl) (fun w' => (by rw [← lit4]; exact (eqw_run 4 4 (by omega) (by omega) w').trans (by rw [decide_eq_true rfl]))) ?_
  with_reducible refine q_val (.bool true) (by kernel_rfl) (fun _ _ => by kernel_rfl) ?_
  with_reducible refine q_val (.bool true) (by kernel_rfl) (fun _ _ => by kernel_rfl) ?_
  with_reducible refine q_val (.bool true) (by kernel_rfl) (fun _ _ => by kernel_rfl) ?_
  with_reducible refine q_val (.bool true) (by kernel_rfl) (fun _ _ => by kernel_rfl) ?_
  with_reducible refine q_val (.bool true) (by kernel_rfl) (fun _ _ => by kernel_rfl) ?_
  with_reducible refine wpQuiet_nil ?_
  intro wx hC
  have HC := Lib.hid hC
  clear hC H4
  simp only [Act.put, List.setIfInBounds_toArray, List.set_cons_succ, List.set_cons_zero]
  go_wp2_with fail
  go_ret
  exact ⟨rfl, HC.out.old⟩
end Go.Proofs.Ytfgefifplmhopaa
namespace Go.Proofs.Ytfgefifplmhopaa

/-- A prime number. -/
def Pr (p : Nat) : Prop := 2 ≤ p ∧ ∀ d, d ∣ p → d = 1 ∨ d = p
theorem Pr.coprime {p a : Nat} (h : Pr p) (ha : ¬ p ∣ a) : Nat.Coprime p a := by
  rcases h.2 _ (Nat.gcd_dvd_left p a) with h1 | h1
  · exact h1
  · exact absurd (h1 ▸ Nat.gcd_dvd_right p a) ha
theorem Pr.dvd_mul {p a b : Nat} (h : Pr p) (hd : p ∣ a * b) : p ∣ a ∨ p ∣ b := by
  by_cases ha : p ∣ a
  · exact .inl ha
  · exact .inr ((h.coprime ha).dvd_of_dvd_mul_left hd)
/-- Each number above 1 has a prime divisor; a least one. -/
theorem has_prime (n : Nat) : 2 ≤ n → ∃ p, Pr p ∧ p ∣ n := by
  induction n using Nat.strongRecOn with
  | _ n ih =>
    intro hn
    by_cases h : ∃ d, d ∣ n ∧ d ≠ 1 ∧ d ≠ n
    · obtain ⟨d, hd, h1, h2⟩ := h
      have h3 : d ≤ n := Nat.le_of_dvd (by omega) hd
      have h4 : d ≠ 0 := by rintro rfl; have := Nat.eq_zero_of_zero_dvd hd; omega
      obtain ⟨p, hp, hpd⟩ := ih d (by omega) (by omega)
      exact ⟨p, hp, Nat.dvd_trans hpd hd⟩
    · refine ⟨n, ⟨hn, fun d hd => ?_⟩, Nat.dvd_refl n⟩
      by_cases h1 : d = 1
      · exact .inl h1
      · by_cases h2 : d = n
        · exact .inr h2
        · exact absurd ⟨d, hd, h1, h2⟩ h
/-- What is no prime has a prime divisor whose square is not above it. -/
theorem small_prime {n : Nat} (hn : 2 ≤ n) (h : ∀ p, Pr p → p ∣ n → n < p * p) : Pr n := by
  refine ⟨hn, fun d hd => ?_⟩
  by_cases h1 : d = 1
  · exact .inl h1
  · right
    obtain ⟨e, rfl⟩ := hd
    have hd0 : d ≠ 0 := by rintro rfl; simp at hn
    have he0 : e ≠ 0 := by rintro rfl; simp at hn
    obtain ⟨p, hp, hpd⟩ := has_prime d (by omega)
    have hp1 := h p hp (Nat.dvd_trans hpd (Nat.dvd_mul_right _ _))
    have hpl := Nat.le_of_dvd (by omega) hpd
    by_cases e1 : e = 1
    · rw [e1, Nat.mul_one]
    · obtain ⟨q, hq, hqe⟩ := has_prime e (by omega)
      have hq1 := h q hq (Nat.dvd_trans hqe (Nat.dvd_mul_left _ _))
      have hql := Nat.le_of_dvd (by omega) hqe
      exfalso
      have h2 : p * q ≤ d * e := Nat.mul_le_mul hpl hql
      rcases Nat.le_total p q with hpq | hpq
      · have := Nat.mul_le_mul_left p hpq; omega
      · have := Nat.mul_le_mul_right q hpq; omega

-- BINOMIALS
def cho : Nat → Nat → Nat
  | _, 0 => 1
  | 0, _ + 1 => 0
  | n + 1, k + 1 => cho n k + cho n (k + 1)
theorem cho_zero (n : Nat) : cho n 0 = 1 := by cases n <;> rfl
theorem cho_above : ∀ n k, n < k → cho n k = 0
  | 0, 0, h => by omega
  | 0, _ + 1, _ => rfl
  | _ + 1, 0, h => by omega
  | n + 1, k + 1, h => by rw [cho, cho_above n k (by omega), cho_above n (k + 1) (by omega)]
theorem cho_self : ∀ n, cho n n = 1
  | 0 => rfl
  | n + 1 => by rw [cho, cho_self n, cho_above n (n + 1) (by omega)]
theorem cho_mul : ∀ n k, (k + 1) * cho (n + 1) (k + 1) = (n + 1) * cho n k
  | 0, 0 => rfl
  | 0, k + 1 => by rw [cho_above (0 + 1) (k + 1 + 1) (by omega), cho_above 0 (k + 1) (by omega)]; simp
  | n + 1, 0 => by
    have h := cho_mul n 0
    rw [cho_zero] at h
    rw [show cho (n + 1 + 1) (0 + 1) = cho (n + 1) 0 + cho (n + 1) (0 + 1) from rfl, cho_zero]
    omega
  | n + 1, k + 1 => by
    have h1 := cho_mul n k
    have h2 := cho_mul n (k + 1)
    have e : cho (n + 1) (k + 1) = cho n k + cho n (k + 1) := by rw [cho]
    rw [show cho (n + 1 + 1) (k + 1 + 1) = cho (n + 1) (k + 1) + cho (n + 1) (k + 1 + 1) by rw [cho]]
    generalize cho (n + 1) (k + 1 + 1) = u at *
    generalize cho (n + 1) (k + 1) = v at *
    generalize cho n (k + 1) = x at *
    generalize cho n k = y at *
    have e1 : (k + 1 + 1) * (v + u) = (k + 1) * v + v + (k + 1 + 1) * u := by rw [Nat.mul_add, Nat.succ_mul (k + 1) v]
    rw [e1, h1, h2, e, Nat.succ_mul (n + 1), Nat.mul_add]
    omega
theorem cho_prime {p k : Nat} (hp : Pr p) (h0 : 0 < k) (hk : k < p) : p ∣ cho p k := by
  obtain ⟨n, rfl⟩ : ∃ n, p = n + 1 := ⟨p - 1, by have := hp.1; omega⟩
  obtain ⟨j, rfl⟩ : ∃ j, k = j + 1 := ⟨k - 1, by omega⟩
  have h := cho_mul n j
  have hd : n + 1 ∣ (j + 1) * cho (n + 1) (j + 1) := by rw [h]; exact Nat.dvd_mul_right _ _
  rcases hp.dvd_mul hd with h1 | h1
  · exact absurd (Nat.le_of_dvd (by omega) h1) (by omega)
  · exact h1
/-- The first j terms of (a + 1) to the n. -/
def bsum (n a : Nat) : Nat → Nat
  | 0 => 0
  | j + 1 => bsum n a j + cho n j * a ^ j
theorem bsum_next (n a : Nat) : ∀ j, bsum (n + 1) a (j + 1) + cho n j * a ^ (j + 1) = (a + 1) * bsum n a j + cho n j * a ^ (j + 1) + cho n j * a ^ j
  | 0 => by simp [bsum, cho_zero]; omega
  | j + 1 => by
    have h := bsum_next n a j
    have e : cho (n + 1) (j + 1) = cho n j + cho n (j + 1) := by rw [cho]
    have e2 : bsum (n + 1) a (j + 1 + 1) = bsum (n + 1) a (j + 1) + cho (n + 1) (j + 1) * a ^ (j + 1) := rfl
    have e3 : bsum n a (j + 1) = bsum n a j + cho n j * a ^ j := rfl
    rw [e2, e3, e, Nat.add_mul, Nat.mul_add]
    have e4 : (a + 1) * (cho n j * a ^ j) = cho n j * a ^ (j + 1) + cho n j * a ^ j := by
      rw [Nat.add_mul, Nat.one_mul, Nat.pow_succ, Nat.mul_left_comm, Nat.mul_comm a]
    rw [e4]
    omega
theorem binom (n a : Nat) : bsum n a (n + 1) = (a + 1) ^ n := by
  induction n with
  | zero => simp [bsum, cho]
  | succ n ih =>
    have h := bsum_next n a (n + 1)
    rw [cho_above n (n + 1) (by omega), ih] at h
    simp only [Nat.zero_mul, Nat.add_zero] at h
    rw [h, Nat.pow_succ, Nat.mul_comm]
theorem bsum_prime {p : Nat} (hp : Pr p) (a : Nat) : ∀ j, 0 < j → j ≤ p → bsum p a j % p = 1 % p := by
  intro j
  induction j with
  | zero => intro h; omega
  | succ j ih =>
    intro _ hj
    by_cases h0 : j = 0
    · subst h0; simp [bsum, cho_zero]
    · have h := ih (by omega) (by omega)
      obtain ⟨q, hq⟩ := cho_prime hp (k := j) (by omega) (by omega)
      show (bsum p a j + cho p j * a ^ j) % p = _
      rw [hq, Nat.mul_assoc, Nat.add_mul_mod_self_left, h]
-- FERMAT
theorem fermat {p : Nat} (hp : Pr p) (a : Nat) : a ^ p % p = a % p := by
  induction a with
  | zero => rw [Nat.zero_pow (by have := hp.1; omega)]
  | succ a ih =>
    rw [← binom]
    show (bsum p a p + cho p p * a ^ p) % p = _
    rw [cho_self, Nat.one_mul, Nat.add_mod, bsum_prime hp a p (by have := hp.1; omega) (Nat.le_refl _), ih, ← Nat.add_mod, Nat.add_comm]
theorem fermat1 {p : Nat} (hp : Pr p) (a : Nat) (ha : ¬ p ∣ a) : a ^ (p - 1) % p = 1 := by
  have h := fermat hp a
  have h2 := hp.1
  obtain ⟨n, rfl⟩ : ∃ n, p = n + 1 := ⟨p - 1, by omega⟩
  have hge : 1 ≤ a ^ n := Nat.pow_pos (Nat.pos_of_ne_zero (by rintro rfl; simp at ha))
  have hd : n + 1 ∣ a * (a ^ n - 1) := by
    have := Nat.sub_mod_eq_zero_of_mod_eq h
    rw [Nat.mul_sub, Nat.mul_one, ← Nat.pow_succ']
    exact Nat.dvd_of_mod_eq_zero this
  have h3 := (hp.coprime ha).dvd_of_dvd_mul_left hd
  obtain ⟨q, hq⟩ := h3
  show a ^ n % (n + 1) = 1
  have : a ^ n = 1 + (n + 1) * q := by omega
  rw [this, Nat.add_mul_mod_self_left, Nat.mod_eq_of_lt (by omega)]
/-- Exponents that give 1 have divisors that do. -/
theorem one_gcd {p b : Nat} (hp : 1 < p) (m n : Nat) : b ^ m % p = 1 → b ^ n % p = 1 → b ^ Nat.gcd m n % p = 1 := by
  induction m, n using Nat.gcd.induction with
  | H0 n => intro _ h; rw [Nat.gcd_zero_left]; exact h
  | H1 m n hm ih =>
    intro h1 h2
    rw [Nat.gcd_rec]
    refine ih ?_ h1
    have e : b ^ n = (b ^ m) ^ (n / m) * b ^ (n % m) := by rw [← Nat.pow_mul, ← Nat.pow_add, Nat.div_add_mod]
    rw [e, Nat.mul_mod, Nat.pow_mod, h1, Nat.one_pow, Nat.mod_eq_of_lt hp, Nat.one_mul, Nat.mod_mod] at h2
    exact h2

-- POCKLINGTON
def pwrm (m : Nat) : Nat → Nat → Nat → Nat → Nat
  | 0, _, _, r => r
  | f + 1, b, e, r => if e = 0 then r else pwrm m f (b * b % m) (e / 2) (if e % 2 = 1 then r * b % m else r)
theorem pwrm_eq (m : Nat) : ∀ f b e r, e < 2 ^ f → r % m = r → pwrm m f b e r = r * b ^ e % m
  | 0, b, e, r, h, hr => by
    obtain rfl : e = 0 := by simpa using h
    simp [pwrm, hr]
  | f + 1, b, e, r, h, hr => by
    unfold pwrm
    by_cases h0 : e = 0
    · simp [h0, hr]
    · rw [if_neg h0, pwrm_eq m f _ _ _ (by rw [Nat.pow_succ] at h; omega) (by split; exact Nat.mod_mod _ _; exact hr)]
      have e1 : (b * b % m) ^ (e / 2) % m = b ^ (2 * (e / 2)) % m := by rw [← Nat.pow_mod, Nat.pow_mul, Nat.pow_two]
      rw [Nat.mul_mod, e1]
      by_cases h1 : e % 2 = 1
      · rw [if_pos h1, Nat.mod_mod, ← Nat.mul_mod, Nat.mul_assoc, ← Nat.pow_succ', show (2 * (e / 2)).succ = e by omega]
      · rw [if_neg h1, ← Nat.mul_mod, show 2 * (e / 2) = e by omega]
def pwr (m b e : Nat) : Nat := pwrm m 260 b e (1 % m)
theorem pwr_eq (m b e : Nat) (h : e < 2 ^ 260) : pwr m b e = b ^ e % m := by
  unfold pwr
  rw [pwrm_eq m _ _ _ _ h (Nat.mod_mod _ _), Nat.mul_mod, Nat.mod_mod, ← Nat.mul_mod, Nat.one_mul]
def prodL : List Nat → Nat
  | [] => 1
  | q :: l => q * prodL l
/-- The certificate: a, and primes q whose product is more than the root. -/
def pock (n a : Nat) (qs : List Nat) : Bool := (2 ≤ n) && (n < 2 ^ 260) && (pwr n a (n - 1) == 1) && qs.all (fun q => (n - 1) % q == 0 && Nat.gcd (pwr n a ((n - 1) / q) + (n - 1)) n == 1) && (n < (prodL qs + 1) * (prodL qs + 1)) && decide qs.Nodup
theorem pock_step {n a q p : Nat} (h2 : 2 ≤ n) (h3 : n < 2 ^ 260) (h1 : pwr n a (n - 1) = 1) (hq : Pr q) (hqd : (n - 1) % q = 0) (hg : Nat.gcd (pwr n a ((n - 1) / q) + (n - 1)) n = 1) (hp : Pr p) (hpn : p ∣ n) : q ∣ p - 1 := by
  rw [pwr_eq _ _ _ (by omega)] at h1
  have hle : (n - 1) / q ≤ n - 1 := Nat.div_le_self _ _
  rw [pwr_eq _ _ _ (by omega)] at hg
  obtain ⟨b, hb⟩ : ∃ b, a ^ ((n - 1) / q) = b := ⟨_, rfl⟩
  rw [hb] at hg
  have hbq : b ^ q = a ^ (n - 1) := by rw [← hb, ← Nat.pow_mul, Nat.div_mul_cancel (Nat.dvd_of_mod_eq_zero hqd)]
  have hp2 := hp.1
  have hmm : ∀ x, x % n % p = x % p := fun x => Nat.mod_mod_of_dvd x hpn
  have hbq1 : b ^ q % p = 1 := by rw [hbq, ← hmm, h1, Nat.mod_eq_of_lt (by omega)]
  have hpb : ¬ p ∣ b := fun h => by
    have h4 : p ∣ b ^ q := Nat.dvd_trans h (by obtain ⟨k, rfl⟩ : ∃ k, q = k + 1 := ⟨q - 1, by have := hq.1; omega⟩; rw [Nat.pow_succ]; exact Nat.dvd_mul_left _ _)
    have := Nat.mod_eq_zero_of_dvd h4
    omega
  have hbp := fermat1 hp b hpb
  by_cases hd : q ∣ p - 1
  · exact hd
  · exfalso
    have hc := one_gcd (by omega) q (p - 1) hbq1 hbp
    rw [show Nat.gcd q (p - 1) = 1 from hq.coprime hd, Nat.pow_one] at hc
    have h5 : p ∣ b % n + (n - 1) := by
      apply Nat.dvd_of_mod_eq_zero
      obtain ⟨k, hk⟩ := hpn
      rw [Nat.add_mod, hmm, hc]
      have e : n - 1 = (p - 1) + p * (k - 1) := by
        have hk0 : k ≠ 0 := by rintro rfl; simp at hk; omega
        obtain ⟨j, rfl⟩ : ∃ j, k = j + 1 := ⟨k - 1, by omega⟩
        rw [hk, Nat.mul_add, Nat.add_sub_cancel]
        omega
      rw [e, Nat.add_mul_mod_self_left, Nat.mod_eq_of_lt (show p - 1 < p by omega), show 1 + (p - 1) = p by omega, Nat.mod_self]
    have h6 := Nat.dvd_gcd h5 hpn
    rw [hg] at h6
    have := Nat.le_of_dvd (by omega) h6
    omega
theorem prodL_dvd {m : Nat} : ∀ l : List Nat, l.Nodup → (∀ q ∈ l, Pr q) → (∀ q ∈ l, q ∣ m) → prodL l ∣ m ∧ ∀ x, Pr x → x ∉ l → Nat.Coprime x (prodL l)
  | [], _, _, _ => ⟨Nat.one_dvd _, fun x _ _ => Nat.coprime_one_right x⟩
  | q :: l, hn, hp, hd => by
    rw [List.nodup_cons] at hn
    obtain ⟨h1, h2⟩ := prodL_dvd l hn.2 (fun q h => hp q (.tail _ h)) (fun q h => hd q (.tail _ h))
    have hq := hp q (.head _)
    refine ⟨Nat.Coprime.mul_dvd_of_dvd_of_dvd (h2 q hq hn.1) (hd q (.head _)) h1, fun x hx hxl => ?_⟩
    refine Nat.Coprime.mul_right (hx.coprime fun h => ?_) (h2 x hx fun h => hxl (.tail _ h))
    rcases hq.2 x h with h3 | h3
    · have := hx.1; omega
    · exact hxl (h3 ▸ .head _)
theorem pocklington (n a : Nat) (qs : List Nat) (h : pock n a qs = true) (hqs : ∀ q ∈ qs, Pr q) : Pr n := by
  unfold pock at h
  simp only [Bool.and_eq_true, decide_eq_true_eq, beq_iff_eq, List.all_eq_true] at h
  obtain ⟨⟨⟨⟨⟨h2, h3⟩, h1⟩, hq⟩, hs⟩, hn⟩ := h
  refine small_prime h2 fun p hp hpn => ?_
  have hd := (prodL_dvd (m := p - 1) qs hn hqs (fun q hm => pock_step h2 h3 h1 (hqs q hm) (hq q hm).1 (hq q hm).2 hp hpn)).1
  have hp2 := hp.1
  have hle := Nat.le_of_dvd (by omega) hd
  have := Nat.mul_le_mul (show prodL qs + 1 ≤ p by omega) (show prodL qs + 1 ≤ p by omega)
  omega
/-- Small primes, by all divisors up to the root. -/
def trial (n : Nat) : Nat → Bool
  | 0 => true
  | k + 1 => (k < 2 || n % k != 0) && trial n k
theorem trial_at (n : Nat) : ∀ k, trial n k = true → ∀ d, 2 ≤ d → d < k → n % d ≠ 0
  | 0, _, d, _, h => by omega
  | k + 1, h, d, h2, hd => by
    unfold trial at h
    simp only [Bool.and_eq_true, Bool.or_eq_true, decide_eq_true_eq, bne_iff_ne] at h
    by_cases e : d = k
    · subst e
      rcases h.1 with h1 | h1
      · omega
      · exact h1
    · exact trial_at n k h.2 d h2 (by omega)
theorem tried (n k : Nat) (h2 : 2 ≤ n) (hk : n < k * k) (h : trial n k = true) : Pr n := by
  refine small_prime h2 fun p hp hpn => ?_
  have hp2 := hp.1
  by_cases e : p < k
  · exact absurd (Nat.mod_eq_zero_of_dvd hpn) (trial_at n k h p hp2 e)
  · have := Nat.mul_le_mul (show k ≤ p by omega) (show k ≤ p by omega)
    omega
theorem prm_53 : Pr 53 := tried 53 8 (by decide) (by decide) (by decide +kernel)
theorem prm_29 : Pr 29 := tried 29 6 (by decide) (by decide) (by decide +kernel)
theorem prm_7 : Pr 7 := tried 7 3 (by decide) (by decide) (by decide +kernel)
theorem prm_107590001 : Pr 107590001 := pocklington 107590001 2 [53, 29, 7] (by decide +kernel) (by intro q hq; simp only [List.mem_cons, List.not_mem_nil, or_false] at hq; rcases hq with rfl | rfl | rfl <;> first | exact prm_53 | exact prm_29 | exact prm_7)
theorem prm_419 : Pr 419 := tried 419 21 (by decide) (by decide) (by decide +kernel)
theorem prm_20113 : Pr 20113 := pocklington 20113 2 [419] (by decide +kernel) (by intro q hq; simp only [List.mem_cons, List.not_mem_nil, or_false] at hq; rcases hq with rfl <;> first | exact prm_419)
theorem prm_1206781 : Pr 1206781 := pocklington 1206781 2 [20113] (by decide +kernel) (by intro q hq; simp only [List.mem_cons, List.not_mem_nil, or_false] at hq; rcases hq with rfl <;> first | exact prm_20113)
theorem prm_7240687 : Pr 7240687 := pocklington 7240687 2 [1206781] (by decide +kernel) (by intro q hq; simp only [List.mem_cons, List.not_mem_nil, or_false] at hq; rcases hq with rfl <;> first | exact prm_1206781)
theorem prm_239 : Pr 239 := tried 239 16 (by decide) (by decide) (by decide +kernel)
theorem prm_101 : Pr 101 := tried 101 11 (by decide) (by decide) (by decide +kernel)
theorem prm_96557 : Pr 96557 := pocklington 96557 2 [239, 101] (by decide +kernel) (by intro q hq; simp only [List.mem_cons, List.not_mem_nil, or_false] at hq; rcases hq with rfl | rfl <;> first | exact prm_239 | exact prm_101)
theorem prm_255515944373312847190720520512484175977 : Pr 255515944373312847190720520512484175977 := pocklington 255515944373312847190720520512484175977 2 [107590001, 7240687, 96557] (by decide +kernel) (by intro q hq; simp only [List.mem_cons, List.not_mem_nil, or_false] at hq; rcases hq with rfl | rfl | rfl <;> first | exact prm_107590001 | exact prm_7240687 | exact prm_96557)
theorem prm_205115282021455665897114700593932402728804164701536103180137503955397371 : Pr 205115282021455665897114700593932402728804164701536103180137503955397371 := pocklington 205115282021455665897114700593932402728804164701536103180137503955397371 2 [255515944373312847190720520512484175977] (by decide +kernel) (by intro q hq; simp only [List.mem_cons, List.not_mem_nil, or_false] at hq; rcases hq with rfl <;> first | exact prm_255515944373312847190720520512484175977)
theorem prm_115792089237316195423570985008687907853269984665640564039457584007908834671663 : Pr 115792089237316195423570985008687907853269984665640564039457584007908834671663 := pocklington 115792089237316195423570985008687907853269984665640564039457584007908834671663 2 [205115282021455665897114700593932402728804164701536103180137503955397371] (by decide +kernel) (by intro q hq; simp only [List.mem_cons, List.not_mem_nil, or_false] at hq; rcases hq with rfl <;> first | exact prm_205115282021455665897114700593932402728804164701536103180137503955397371)
theorem prm_1871 : Pr 1871 := tried 1871 44 (by decide) (by decide) (by decide +kernel)
theorem prm_1627771 : Pr 1627771 := pocklington 1627771 2 [1871] (by decide +kernel) (by intro q hq; simp only [List.mem_cons, List.not_mem_nil, or_false] at hq; rcases hq with rfl <;> first | exact prm_1871)
theorem prm_297159362677 : Pr 297159362677 := pocklington 297159362677 2 [1627771] (by decide +kernel) (by intro q hq; simp only [List.mem_cons, List.not_mem_nil, or_false] at hq; rcases hq with rfl <;> first | exact prm_1627771)
theorem prm_1409 : Pr 1409 := tried 1409 38 (by decide) (by decide) (by decide +kernel)
theorem prm_28181 : Pr 28181 := pocklington 28181 2 [1409] (by decide +kernel) (by intro q hq; simp only [List.mem_cons, List.not_mem_nil, or_false] at hq; rcases hq with rfl <;> first | exact prm_1409)
theorem prm_545358713 : Pr 545358713 := pocklington 545358713 2 [28181] (by decide +kernel) (by intro q hq; simp only [List.mem_cons, List.not_mem_nil, or_false] at hq; rcases hq with rfl <;> first | exact prm_28181)
theorem prm_29047611873442575647497758179 : Pr 29047611873442575647497758179 := pocklington 29047611873442575647497758179 2 [297159362677, 545358713] (by decide +kernel) (by intro q hq; simp only [List.mem_cons, List.not_mem_nil, or_false] at hq; rcases hq with rfl | rfl <;> first | exact prm_297159362677 | exact prm_545358713)
theorem prm_341948486974166000522343609283189 : Pr 341948486974166000522343609283189 := pocklington 341948486974166000522343609283189 2 [29047611873442575647497758179] (by decide +kernel) (by intro q hq; simp only [List.mem_cons, List.not_mem_nil, or_false] at hq; rcases hq with rfl <;> first | exact prm_29047611873442575647497758179)
theorem prm_41 : Pr 41 := tried 41 7 (by decide) (by decide) (by decide +kernel)
theorem prm_19 : Pr 19 := tried 19 5 (by decide) (by decide) (by decide +kernel)
theorem prm_9349 : Pr 9349 := pocklington 9349 2 [41, 19] (by decide +kernel) (by intro q hq; simp only [List.mem_cons, List.not_mem_nil, or_false] at hq; rcases hq with rfl | rfl <;> first | exact prm_41 | exact prm_19)
theorem prm_44706919 : Pr 44706919 := pocklington 44706919 2 [9349] (by decide +kernel) (by intro q hq; simp only [List.mem_cons, List.not_mem_nil, or_false] at hq; rcases hq with rfl <;> first | exact prm_9349)
theorem prm_113 : Pr 113 := tried 113 11 (by decide) (by decide) (by decide +kernel)
theorem prm_120233 : Pr 120233 := pocklington 120233 2 [113, 19] (by decide +kernel) (by intro q hq; simp only [List.mem_cons, List.not_mem_nil, or_false] at hq; rcases hq with rfl | rfl <;> first | exact prm_113 | exact prm_19)
theorem prm_174723607534414371449 : Pr 174723607534414371449 := pocklington 174723607534414371449 2 [44706919, 120233] (by decide +kernel) (by intro q hq; simp only [List.mem_cons, List.not_mem_nil, or_false] at hq; rcases hq with rfl | rfl <;> first | exact prm_44706919 | exact prm_120233)
theorem prm_115792089237316195423570985008687907852837564279074904382605163141518161494337 : Pr 115792089237316195423570985008687907852837564279074904382605163141518161494337 := pocklington 115792089237316195423570985008687907852837564279074904382605163141518161494337 2 [341948486974166000522343609283189, 174723607534414371449] (by decide +kernel) (by intro q hq; simp only [List.mem_cons, List.not_mem_nil, or_false] at hq; rcases hq with rfl | rfl <;> first | exact prm_341948486974166000522343609283189 | exact prm_174723607534414371449)
theorem prm_127 : Pr 127 := tried 127 12 (by decide) (by decide) (by decide +kernel)
theorem prm_3557 : Pr 3557 := pocklington 3557 2 [127] (by decide +kernel) (by intro q hq; simp only [List.mem_cons, List.not_mem_nil, or_false] at hq; rcases hq with rfl <;> first | exact prm_127)
theorem prm_911 : Pr 911 := tried 911 31 (by decide) (by decide) (by decide +kernel)
theorem prm_1263766531 : Pr 1263766531 := pocklington 1263766531 2 [3557, 911] (by decide +kernel) (by intro q hq; simp only [List.mem_cons, List.not_mem_nil, or_false] at hq; rcases hq with rfl | rfl <;> first | exact prm_3557 | exact prm_911)
theorem prm_35385462869 : Pr 35385462869 := pocklington 35385462869 2 [1263766531] (by decide +kernel) (by intro q hq; simp only [List.mem_cons, List.not_mem_nil, or_false] at hq; rcases hq with rfl <;> first | exact prm_1263766531)
theorem prm_2480874801745591 : Pr 2480874801745591 := pocklington 2480874801745591 2 [35385462869] (by decide +kernel) (by intro q hq; simp only [List.mem_cons, List.not_mem_nil, or_false] at hq; rcases hq with rfl <;> first | exact prm_35385462869)
theorem prm_37 : Pr 37 := tried 37 7 (by decide) (by decide) (by decide +kernel)
theorem prm_5 : Pr 5 := tried 5 3 (by decide) (by decide) (by decide +kernel)
theorem prm_2221 : Pr 2221 := pocklington 2221 2 [37, 5] (by decide +kernel) (by intro q hq; simp only [List.mem_cons, List.not_mem_nil, or_false] at hq; rcases hq with rfl | rfl <;> first | exact prm_37 | exact prm_5)
theorem prm_13327 : Pr 13327 := pocklington 13327 2 [2221] (by decide +kernel) (by intro q hq; simp only [List.mem_cons, List.not_mem_nil, or_false] at hq; rcases hq with rfl <;> first | exact prm_2221)
theorem prm_173171039 : Pr 173171039 := pocklington 173171039 2 [13327] (by decide +kernel) (by intro q hq; simp only [List.mem_cons, List.not_mem_nil, or_false] at hq; rcases hq with rfl <;> first | exact prm_13327)
theorem prm_13427688667394608761327070753331941386769 : Pr 13427688667394608761327070753331941386769 := pocklington 13427688667394608761327070753331941386769 2 [2480874801745591, 173171039] (by decide +kernel) (by intro q hq; simp only [List.mem_cons, List.not_mem_nil, or_false] at hq; rcases hq with rfl | rfl <;> first | exact prm_2480874801745591 | exact prm_173171039)
theorem prm_21888242871839275222246405745257275088696311157297823662689037894645226208583 : Pr 21888242871839275222246405745257275088696311157297823662689037894645226208583 := pocklington 21888242871839275222246405745257275088696311157297823662689037894645226208583 2 [13427688667394608761327070753331941386769] (by decide +kernel) (by intro q hq; simp only [List.mem_cons, List.not_mem_nil, or_false] at hq; rcases hq with rfl <;> first | exact prm_13427688667394608761327070753331941386769)
end Go.Proofs.Ytfgefifplmhopaa
namespace Go.Proofs.Ytfgefifplmhopaa
open Go.RowKit
set_option maxRecDepth 100000 in
set_option maxHeartbeats 1000000 in
-- WHAT Curve COMES TO.
theorem f_Curve (w : World) : Calls Try.prog 49 #[] w fun e w' => ∃ F, e = .returned (.pointer (some ⟨F, 0, none⟩)) ∧ FldAt w' F 115792089237316195423570985008687907853269984665640564039457584007908834671663 ∧ w.heap.size ≤ F ∧ Below w.heap.size w w' := by
  have HMO := Lib.hid (fun wx => modulo_any 115792089237316195423570985008687907853269984665640564039457584007908834671663 (by omega) (by omega) (by omega) wx)
  rw [show pw 115792089237316195423570985008687907853269984665640564039457584007908834671663 = #[.int .u64 18446744069414583343, .int .u64 18446744073709551615, .int .u64 18446744073709551615, .int .u64 18446744073709551615] from by kernel_rfl] at HMO
  go_enter Try.func49, Try.ntmps49
  go_wp2_with fail
  refine (HMO.out _).mono ?_
  rintro e w5 ⟨F, rfl, hF, hs, hb⟩
  have HF := Lib.hid (And.intro hF (And.intro hs hb))
  clear hF hs hb HMO
  go_wp2_with fail
  go_ret
  exact ⟨F, rfl, HF.out.1, HF.out.2⟩
set_option maxRecDepth 100000 in
set_option maxHeartbeats 1000000 in
-- WHAT Order COMES TO.
theorem f_Order (w : World) : Calls Try.prog 50 #[] w fun e w' => ∃ F, e = .returned (.pointer (some ⟨F, 0, none⟩)) ∧ FldAt w' F 115792089237316195423570985008687907852837564279074904382605163141518161494337 ∧ w.heap.size ≤ F ∧ Below w.heap.size w w' := by
  have HMO := Lib.hid (fun wx => modulo_any 115792089237316195423570985008687907852837564279074904382605163141518161494337 (by omega) (by omega) (by omega) wx)
  rw [show pw 115792089237316195423570985008687907852837564279074904382605163141518161494337 = #[.int .u64 13822214165235122497, .int .u64 13451932020343611451, .int .u64 18446744073709551614, .int .u64 18446744073709551615] from by kernel_rfl] at HMO
  go_enter Try.func50, Try.ntmps50
  go_wp2_with fail
  refine (HMO.out _).mono ?_
  rintro e w5 ⟨F, rfl, hF, hs, hb⟩
  have HF := Lib.hid (And.intro hF (And.intro hs hb))
  clear hF hs hb HMO
  go_wp2_with fail
  go_ret
  exact ⟨F, rfl, HF.out.1, HF.out.2⟩
set_option maxRecDepth 100000 in
set_option maxHeartbeats 1000000 in
-- WHAT Base COMES TO.
theorem f_Base (w : World) : Calls Try.prog 51 #[] w fun e w' => ∃ F, e = .returned (.pointer (some ⟨F, 0, none⟩)) ∧ FldAt w' F 21888242871839275222246405745257275088696311157297823662689037894645226208583 ∧ w.heap.size ≤ F ∧ Below w.heap.size w w' := by
  have HMO := Lib.hid (fun wx => modulo_any 21888242871839275222246405745257275088696311157297823662689037894645226208583 (by omega) (by omega) (by omega) wx)
  rw [show pw 21888242871839275222246405745257275088696311157297823662689037894645226208583 = #[.int .u64 4332616871279656263, .int .u64 10917124144477883021, .int .u64 13281191951274694749, .int .u64 3486998266802970665] from by kernel_rfl] at HMO
  go_enter Try.func51, Try.ntmps51
  go_wp2_with fail
  refine (HMO.out _).mono ?_
  rintro e w5 ⟨F, rfl, hF, hs, hb⟩
  have HF := Lib.hid (And.intro hF (And.intro hs hb))
  clear hF hs hb HMO
  go_wp2_with fail
  go_ret
  exact ⟨F, rfl, HF.out.1, HF.out.2⟩
end Go.Proofs.Ytfgefifplmhopaa
namespace Go.Proofs.Ytfgefifplmhopaa
open Go.RowKit
/-- The three fields, and the list that points at them. -/
structure Fds (w : World) (l f g h : Nat) : Prop where
  row : w.heap[l]? = some (.cells #[.pointer (some ⟨f, 0, none⟩), .pointer (some ⟨g, 0, none⟩), .pointer (some ⟨h, 0, none⟩)] 25 (0, 0))
  c : FldAt w f 115792089237316195423570985008687907853269984665640564039457584007908834671663
  o : FldAt w g 115792089237316195423570985008687907852837564279074904382605163141518161494337
  b : FldAt w h 21888242871839275222246405745257275088696311157297823662689037894645226208583
theorem Fds.below {w w' : World} {l f g h : Nat} (c : Fds w l f g h) (hb : Below w.heap.size w w') : Fds w' l f g h :=
  ⟨(hb.block _ (Array.getElem?_eq_some_iff.1 c.row).1).trans c.row, c.c.below hb, c.o.below hb, c.b.below hb⟩
theorem Fds.cell {w : World} {l f g h : Nat} (c : Fds w l f g h) (k : Nat) (hk : k < 3) : ∃ p, w.cell? ⟨l, k, none⟩ = some (.pointer (some ⟨p, 0, none⟩)) := by
  have e := fun j => cell_of_row w l j _ _ _ c.row
  have : k = 0 ∨ k = 1 ∨ k = 2 := by omega
  rcases this with rfl | rfl | rfl
  · exact ⟨f, (e 0).trans rfl⟩
  · exact ⟨g, (e 1).trans rfl⟩
  · exact ⟨h, (e 2).trans rfl⟩
set_option maxRecDepth 100000 in
set_option maxHeartbeats 1000000 in
-- WHAT fields COMES TO.
theorem fields_any (w : World) : Calls Try.prog 21 #[] w fun e w' => ∃ l f g h, e = .returned (.slice (some ⟨l, 0, none⟩) 3 3) ∧ Fds w' l f g h ∧ Below w.heap.size w w' := by
  go_enter Try.func21, Try.ntmps21
  go_wp2_with fail
  refine (f_Curve _).mono ?_
  rintro e w1 ⟨f, rfl, hf, -, hb1⟩
  have H1 := Lib.hid (And.intro hf hb1)
  clear hf hb1
  go_wp2_with fail
  refine (f_Order _).mono ?_
  rintro e w2 ⟨g, rfl, hg, -, hb2⟩
  have H2 := Lib.hid (And.intro (H1.out.1.below hb2) (And.intro hg (H1.out.2.trans (hb2.mono H1.out.2.size))))
  clear hg hb2 H1
  go_wp2_with fail
  refine (f_Base _).mono ?_
  rintro e w3 ⟨h, rfl, hh, -, hb3⟩
  have H3 := Lib.hid (show Fds (w3.alloc (.cells #[.pointer (some ⟨f, 0, none⟩), .pointer (some ⟨g, 0, none⟩), .pointer (some ⟨h, 0, none⟩)] 25)) w3.heap.size f g h ∧ Below w.heap.size w (w3.alloc (.cells #[.pointer (some ⟨f, 0, none⟩), .pointer (some ⟨g, 0, none⟩), .pointer (some ⟨h, 0, none⟩)] 25)) from by
    have hb4 : Below w3.heap.size w3 (w3.alloc (.cells #[.pointer (some ⟨f, 0, none⟩), .pointer (some ⟨g, 0, none⟩), .pointer (some ⟨h, 0, none⟩)] 25)) := (Below.refl _ _).alloc (Nat.le_refl _) _
    have b := H2.out.2.2.trans (hb3.mono H2.out.2.2.size)
    exact ⟨⟨heap_alloc_new _ _, (H2.out.1.below hb3).below hb4, (H2.out.2.1.below hb3).below hb4, hh.below hb4⟩, b.trans (hb4.mono b.size)⟩)
  clear hh hb3 H2
  go_wp2_with fail
  obtain ⟨w4, hw4⟩ : ∃ w4, (w3.alloc (.cells #[.pointer (some ⟨f, 0, none⟩), .pointer (some ⟨g, 0, none⟩), .pointer (some ⟨h, 0, none⟩)] 25)) = w4 := ⟨_, rfl⟩
  obtain ⟨l, hl⟩ : ∃ l, w3.heap.size = l := ⟨_, rfl⟩
  rw [hw4, hl] at H3
  rw [hw4, hl]
  clear hw4 hl
  go_loopw [2] (fun iv wr => ∃ k : Nat, k ≤ 3 ∧ iv = .int .i64 k ∧ w4 = wr) (fun iv _ => 3 - (intOf iv).toNat)
  case atStart => exact ⟨0, by omega, rfl, rfl⟩
  case round =>
    obtain ⟨k, hk, rfl, rfl⟩ := hrel
    have hk0 : (0 : Int) ≤ k := by omega
    by_cases hlt : k < 3
    · have hlt' : (k : Int) < 3 := by omega
      obtain ⟨p, hp⟩ := H3.out.1.cell k hlt
      go_wp2_with fail
      go_roundw
      case rel => exact ⟨k + 1, by omega, by go_num, trivial⟩
      case measure => simp [intOf]; omega
    · obtain rfl : k = 3 := by omega
      have hlt' : ¬ ((3 : Nat) : Int) < 3 := by omega
      simp only [Int.cast_ofNat_Int]
      go_wp2_with fail
      go_ret
      exact ⟨l, rfl, ⟨f, g, h, H3.out.1⟩, H3.out.2⟩
end Go.Proofs.Ytfgefifplmhopaa
namespace Go.Proofs.Ytfgefifplmhopaa
/-- What times n is 1. -/
def invN (p n : Nat) : Nat := n ^ (p - 2) % p
theorem invN_lt {p : Nat} (hp : Pr p) (n : Nat) : invN p n < p := Nat.mod_lt _ (by have := hp.1; omega)
theorem invN_ok {p n : Nat} (hp : Pr p) (h : ¬ p ∣ n) : n * invN p n % p = 1 := by
  unfold invN
  have h2 := hp.1
  rw [Nat.mul_mod, Nat.mod_mod, ← Nat.mul_mod, ← Nat.pow_succ', show (p - 2).succ = p - 1 by omega]
  exact fermat1 hp n h
theorem invN_not {p n : Nat} (hp : Pr p) (h : p ∣ n) : n * invN p n % p ≠ 1 := by
  have h2 := hp.1
  rw [Nat.mul_mod, Nat.mod_eq_zero_of_dvd h, Nat.zero_mul, Nat.zero_mod]
  omega
theorem invN_iff {p n : Nat} (hp : Pr p) : n * invN p n % p = 1 ↔ ¬ p ∣ n := ⟨fun h hd => invN_not hp hd h, invN_ok hp⟩
theorem invN_uniq {p n x : Nat} (hp : Pr p) (h : n * x % p = 1) (hx : x < p) : invN p n = x := by
  have hn : ¬ p ∣ n := fun hd => by
    rw [Nat.mul_mod, Nat.mod_eq_zero_of_dvd hd, Nat.zero_mul, Nat.zero_mod] at h
    omega
  have h1 := invN_ok hp hn
  have e1 : invN p n * (n * x) % p = invN p n := by rw [Nat.mul_mod, h, Nat.mul_one, Nat.mod_mod, Nat.mod_eq_of_lt (invN_lt hp n)]
  have e2 : invN p n * (n * x) % p = x := by rw [← Nat.mul_assoc, Nat.mul_comm (invN p n), Nat.mul_mod, h1, Nat.one_mul, Nat.mod_mod, Nat.mod_eq_of_lt hx]
  exact e1.symm.trans e2
theorem invN_back {p n : Nat} (hp : Pr p) (h : ¬ p ∣ n) : invN p (invN p n) = n % p := by
  refine invN_uniq hp ?_ (Nat.mod_lt _ (by have := hp.1; omega))
  rw [Nat.mul_mod, Nat.mod_mod, ← Nat.mul_mod, Nat.mul_comm]
  exact invN_ok hp h
theorem invN_mul (p a b : Nat) : invN p (a * b % p) = invN p a * invN p b % p := by
  unfold invN
  rw [← Nat.pow_mod, Nat.mul_pow, Nat.mul_mod]
theorem invN_nd {p n : Nat} (hp : Pr p) (h : ¬ p ∣ n) : ¬ p ∣ invN p n := fun hd => by
  have h1 := invN_ok hp h
  rw [Nat.mul_mod, Nat.mod_eq_zero_of_dvd hd, Nat.mul_zero, Nat.zero_mod] at h1
  omega
end Go.Proofs.Ytfgefifplmhopaa
namespace Go.Proofs.Ytfgefifplmhopaa
open Go.RowKit
structure CF (w : World) (l f g h : Nat) (L : List (Nat × Array Value)) (wx : World) : Prop where
  old : Below w.heap.size w wx
  fds : Fds wx l f g h
  rows : ∀ p ∈ L, wx.heap[p.1]? = some (.cells p.2 24 (0, 0))
theorem CF.is {w wx : World} {l f g h : Nat} {L : List (Nat × Array Value)} (c : CF w l f g h L wx) (b : Nat) (cs : Array Value) (hm : (b, cs) ∈ L) : wx.heap[b]? = some (.cells cs 24 (0, 0)) := c.rows _ hm
theorem CF.below {w wx w' : World} {l f g h : Nat} {L : List (Nat × Array Value)} (c : CF w l f g h L wx) (hb : Below wx.heap.size wx w') : CF w l f g h L w' :=
  ⟨c.old.trans (hb.mono c.old.size), c.fds.below hb, fun p hp => (hb.block _ (Array.getElem?_eq_some_iff.1 (c.rows p hp)).1).trans (c.rows p hp)⟩
theorem CF.drew {w wx : World} {l f g h : Nat} {L : List (Nat × Array Value)} (c : CF w l f g h L wx) : CF w l f g h L wx.drew := c.below (Below.drew (Below.refl _ _))
theorem CF.less {w wx : World} {l f g h : Nat} {L : List (Nat × Array Value)} (c : CF w l f g h L wx) (L' : List (Nat × Array Value)) (hs : ∀ p ∈ L', p ∈ L) : CF w l f g h L' wx := ⟨c.old, c.fds, fun p hp => c.rows p (hs p hp)⟩
/-- A word more, laid into a fresh block. -/
theorem CF.lay {w wx : World} {l f g h : Nat} {L : List (Nat × Array Value)} (c : CF w l f g h L wx) (cs : Array Value) : CF w l f g h ((wx.heap.size, cs) :: L) ((wx.alloc (.cells (#[.int .u64 0, .int .u64 0, .int .u64 0, .int .u64 0]) 24)).setRow wx.heap.size cs) := by
  have hb : Below wx.heap.size wx ((wx.alloc (.cells (#[.int .u64 0, .int .u64 0, .int .u64 0, .int .u64 0]) 24)).setRow wx.heap.size cs) := below_setRow ((Below.refl _ _).alloc (Nat.le_refl _) _) (Nat.le_refl _) _
  have c' := c.below hb
  refine ⟨c'.old, c'.fds, fun p hp => ?_⟩
  rcases List.mem_cons.1 hp with rfl | hp
  · exact setRow_heap _ _ _ _ _ _ (heap_alloc_new _ _)
  · exact c'.rows p hp
theorem CF.calls {w : World} {l f g h F m : Nat} {L : List (Nat × Array Value)} {fn : FuncId} {args : Array Value} {v : Value} (hf : ∀ wx, Fds wx l f g h → FldAt wx F m) (hc : ∀ wx, FldAt wx F m → Calls Try.prog fn args wx fun e w' => e = .returned v ∧ Below wx.heap.size wx w') : ∀ wx, CF w l f g h L wx → Calls Try.prog fn args wx fun e w' => e = .returned v ∧ CF w l f g h L w' :=
  fun wx c => (hc wx (hf wx c.fds)).mono fun _ _ hh => ⟨hh.1, c.below hh.2⟩
/-- One of the three: a prime modulus. -/
theorem Fds.one {l f g h : Nat} (k : Nat) (hk : k < 3) : ∃ F m, Pr m ∧ ∀ w, Fds w l f g h → w.cell? ⟨l, k, none⟩ = some (.pointer (some ⟨F, 0, none⟩)) ∧ FldAt w F m := by
  have : k = 0 ∨ k = 1 ∨ k = 2 := by omega
  rcases this with rfl | rfl | rfl
  · exact ⟨f, _, prm_115792089237316195423570985008687907853269984665640564039457584007908834671663, fun w c => ⟨(cell_of_row w l 0 _ _ _ c.row).trans rfl, c.c⟩⟩
  · exact ⟨g, _, prm_115792089237316195423570985008687907852837564279074904382605163141518161494337, fun w c => ⟨(cell_of_row w l 1 _ _ _ c.row).trans rfl, c.o⟩⟩
  · exact ⟨h, _, prm_21888242871839275222246405745257275088696311157297823662689037894645226208583, fun w c => ⟨(cell_of_row w l 2 _ _ _ c.row).trans rfl, c.b⟩⟩
/-- The inverse in a field of a prime modulus. -/
theorem finv_prime {F m n : Nat} (hp : Pr m) (ha : n < 115792089237316195423570985008687907853269984665640564039457584007913129639936) (w : World) (hF : FldAt w F m) : Calls Try.prog 27 #[.pointer (some ⟨F, 0, none⟩), .agg (pw n)] w fun e w' => e = .returned (.tuple #[.agg (pw (if m ∣ n then 0 else invN m n)), .bool (decide (¬ m ∣ n))]) ∧ Below w.heap.size w w' := by
  have h := finv_any F m n ha w hF
  have e := invN_iff (p := m) (n := n) hp
  unfold invN at e
  by_cases hd : m ∣ n
  · have hn : ¬ n * (n ^ (m - 2) % m) % m = 1 := fun h => e.1 h hd
    rw [if_neg hn, decide_eq_false hn] at h
    rw [if_pos hd, decide_eq_false (by simpa using hd)]
    exact h
  · have hn := e.2 hd
    rw [if_pos hn, decide_eq_true hn] at h
    rw [if_neg hd, decide_eq_true hd]
    exact h
end Go.Proofs.Ytfgefifplmhopaa
namespace Go.Proofs.Ytfgefifplmhopaa
open Go.ChangeShapes Go.WideShapes Go.ChangeAt Go.RowKit

theorem ownF : ownKnob Try.prog.godebug = none := by kernel_rfl
theorem laidOutF : laidOutB Try.prog = true := by kernel_rfl
theorem cellsU64 : Try.prog.cellsOf 22 = 1 := by kernel_rfl
theorem cellsWord : Try.prog.cellsOf 24 = 4 := by kernel_rfl

theorem list4 {α : Type} (l : List α) (h : (⟨l⟩ : Array α).size = 4) : ∃ a b c d, l = [a, b, c, d] := by
  match l, h with
  | [a, b, c, d], _ => exact ⟨a, b, c, d, rfl⟩

theorem nat_of_wf {x : Int} (h : (Lit.int .u64 x).wf = true) : ∃ n : Nat, n < 18446744073709551616 ∧ x = (n : Int) := by
  obtain ⟨h0, h1⟩ := bounds_u64 h
  clear h
  obtain ⟨n, rfl⟩ := Int.eq_ofNat_of_zero_le h0
  exact ⟨n, by omega, rfl⟩

set_option maxRecDepth 100000 in
/-- A WORD AMONG THE ARGUMENTS is the value of a number. -/
theorem open_word {H : Type} {enc : TypeId × Value → H} {W : World} {base b2 : Nat} {sp : Nat → Bool} {hd : Bool} {v : Value} {d : DataW H} {ps : List MemPlace}
    (hv : Value.okWide Try.prog W .any base 24 v) (h : DataW.Trod enc Try.prog W b2 sp hd 24 v d ps) : ∃ x : Nat, v = wv x := by
  obtain ⟨cs, rfl, hsz, _⟩ : ∃ cs, v = .agg cs ∧ cs.size = Try.prog.cellsOf 24 ∧ Row.okWide Try.prog W .any base 24 cs := by
    simpa [Value.okWide, Try.underlying24] using hv
  rw [cellsWord] at hsz
  obtain ⟨l⟩ := cs
  obtain ⟨c0, c1, c2, c3, rfl⟩ := list4 l hsz
  obtain ⟨fuel, hf⟩ := h
  obtain ⟨y0, y1, y2, y3, m, hx, hy0, hy1, hy2, hy3⟩ := trod_array4 Try.underlying24 cellsU64 hf
  obtain ⟨x0, e0, rfl, w0⟩ := DataW.trod_int Try.underlying22 hy0
  obtain ⟨x1, e1, rfl, w1⟩ := DataW.trod_int Try.underlying22 hy1
  obtain ⟨x2, e2, rfl, w2⟩ := DataW.trod_int Try.underlying22 hy2
  obtain ⟨x3, e3, rfl, w3⟩ := DataW.trod_int Try.underlying22 hy3
  simp at e0 e1 e2 e3
  subst e0 e1 e2 e3
  obtain ⟨n0, l0, rfl⟩ := nat_of_wf w0
  obtain ⟨n1, l1, rfl⟩ := nat_of_wf w1
  obtain ⟨n2, l2, rfl⟩ := nat_of_wf w2
  obtain ⟨n3, l3, rfl⟩ := nat_of_wf w3
  exact ⟨n4 n0 n1 n2 n3, (wv_n4 l0 l1 l2 l3).symm⟩
noncomputable def bareWorld (os : Os) : World := World.holding Try.prog os ⟨#[], #[], []⟩
set_option maxRecDepth 100000 in
theorem open_pw {H : Type} {enc : TypeId × Value → H} {W : World} {base b2 : Nat} {sp : Nat → Bool} {hd : Bool} {v : Value} {d : DataW H} {ps : List MemPlace}
    (hv : Value.okWide Try.prog W .any base 24 v) (h : DataW.Trod enc Try.prog W b2 sp hd 24 v d ps) : ∃ x : Nat, v = .agg (pw x) ∧ x < 115792089237316195423570985008687907853269984665640564039457584007913129639936 := by
  obtain ⟨x, rfl⟩ := open_word hv h
  exact ⟨x % 115792089237316195423570985008687907853269984665640564039457584007913129639936, by rw [wv_pw, pw_modn], Nat.mod_lt _ (by omega)⟩
end Go.Proofs.Ytfgefifplmhopaa
namespace Go.Proofs.Ytfgefifplmhopaa
open Go.ChangeShapes Go.WideShapes Go.ChangeAt Go.RowKit
theorem two_at {w : World} {V : Nat} {q : Nat → Nat} (h : w.heap[V]? = some (.cells (ar .u64 8 (tabF q)) 44 (0, 0))) (k j : Nat) (hk : k < 2) (hj : j < 4) : w.cell? ⟨V, k * 4 + j, none⟩ = some (.int .u64 ((pN (q k) j : Nat) : Int)) := by
  refine (cell_of_row _ _ (k * 4 + j) _ _ _ h).trans ((ar_at _ _ _ _ (by omega)).trans ?_)
  unfold tabF
  rw [show (k * 4 + j) / 4 = k by omega, show (k * 4 + j) % 4 = j by omega]
theorem ld_two {w : World} {V : Nat} {q : Nat → Nat} (h : w.heap[V]? = some (.cells (ar .u64 8 (tabF q)) 44 (0, 0))) (k : Nat) (hk : k < 2) : (Instr.loadAt 24 (.pointer (some ⟨V, k * 4, none⟩))).run Try.prog w = .ok (.agg (pw (q k))) w := by
  rw [pw_ar]
  simp only [Instr.loadAt, Instr.sureAddr, Sem.run_bind, Sem.run_pure, Result.andThen_ok, run_loadVar_part w V (k * 4) 4 24 .u64 (fun j => ((pN (q k) j : Nat) : Int)) _ (fun j hj => two_at h k j hk hj) Try.underlying24 rfl infoW4]
theorem pN_n4 {a b c d : Nat} (h0 : a < 18446744073709551616) (h1 : b < 18446744073709551616) (h2 : c < 18446744073709551616) (h3 : d < 18446744073709551616) : pN (n4 a b c d) 0 = a ∧ pN (n4 a b c d) 1 = b ∧ pN (n4 a b c d) 2 = c ∧ pN (n4 a b c d) 3 = d := by
  unfold pN n4
  refine ⟨?_, ?_, ?_, ?_⟩
  · rw [show 2 ^ (64 * 0) = 1 from rfl]; omega
  · rw [show 2 ^ (64 * 1) = 18446744073709551616 from rfl]; omega
  · rw [show 2 ^ (64 * 2) = 340282366920938463463374607431768211456 from rfl]; omega
  · rw [show 2 ^ (64 * 3) = 6277101735386680763835789423207666416102355444464034512896 from rfl]; omega
theorem cellsTwo : Try.prog.cellsOf 44 = 8 := by kernel_rfl
theorem ints_four {H : Type} {enc : TypeId × Value → H} {w : World} {base : Nat} {sp : Nat → Bool} {held : Bool} {fuel : Nat} {cs : List Value} {d : DataW H} {p : List MemPlace}
    (h : DataW.trod enc Try.prog w base sp held fuel 24 cs = some (d, p)) : ∀ i, i < 4 → ∃ n : Nat, n < 18446744073709551616 ∧ cs[i]? = some (.int .u64 (n : Nat)) := by
  cases fuel with
  | zero => simp [DataW.trod] at h
  | succ fuel =>
    simp only [DataW.trod, Try.underlying24, cellsU64, Nat.mul_one] at h
    split at h
    · obtain ⟨xs, hm, hx⟩ := Option.map_eq_some_iff.1 h
      intro i hi
      obtain ⟨b, hb, hf⟩ := Lib.mapM_at hm i i (by simp [hi])
      obtain ⟨z, hc, -, hw⟩ := DataW.trod_int Try.underlying22 hf
      obtain ⟨n, hn, rfl⟩ := nat_of_wf hw
      refine ⟨n, hn, ?_⟩
      have := congrArg (·[0]?) hc
      simpa [List.getElem?_take, List.getElem?_drop] using this
    · cases h
set_option maxRecDepth 100000 in
/-- TWO WORDS AMONG THE ARGUMENTS. -/
theorem open_two {H : Type} {enc : TypeId × Value → H} {W : World} {base b2 : Nat} {sp : Nat → Bool} {hd : Bool} {v : Value} {d : DataW H} {ps : List MemPlace}
    (hv : Value.okWide Try.prog W .any base 44 v) (h : DataW.Trod enc Try.prog W b2 sp hd 44 v d ps) : ∃ q : Nat → Nat, v = .agg (ar .u64 8 (tabF q)) ∧ ∀ k, q k < 115792089237316195423570985008687907853269984665640564039457584007913129639936 := by
  obtain ⟨cs, rfl, hsz, _⟩ : ∃ cs, v = .agg cs ∧ cs.size = Try.prog.cellsOf 44 ∧ Row.okWide Try.prog W .any base 44 cs := by
    simpa [Value.okWide, Try.underlying44] using hv
  rw [cellsTwo] at hsz
  obtain ⟨fuel, hf⟩ := h
  have h1 : ∀ i, i < 8 → ∃ n : Nat, n < 18446744073709551616 ∧ cs[i]? = some (.int .u64 (n : Nat)) := by
    cases fuel with
    | zero => simp [DataW.trod] at hf
    | succ fuel =>
      simp only [DataW.trod, Try.underlying44, cellsWord] at hf
      split at hf
      · obtain ⟨xs, hm, hx⟩ := Option.map_eq_some_iff.1 hf
        intro i hi
        obtain ⟨b, hb, hg⟩ := Lib.mapM_at hm (i / 4) (i / 4) (by rw [List.getElem?_range (by omega)])
        obtain ⟨n, hn, hc⟩ := ints_four hg (i % 4) (by omega)
        refine ⟨n, hn, ?_⟩
        rw [List.getElem?_take_of_lt (by omega), List.getElem?_drop, show i / 4 * 4 + i % 4 = i by omega] at hc
        simpa [Value.cells] using hc
      · cases hf
  have h2 : ∀ i, ∃ n : Nat, n < 18446744073709551616 ∧ (i < 8 → cs[i]? = some (.int .u64 (n : Nat))) := fun i => by
    by_cases hi : i < 8
    · obtain ⟨n, a, b⟩ := h1 i hi
      exact ⟨n, a, fun _ => b⟩
    · exact ⟨0, by omega, fun h => absurd h hi⟩
  obtain ⟨z, hz⟩ : ∃ z : Nat → Nat, ∀ i, z i < 18446744073709551616 ∧ (i < 8 → cs[i]? = some (.int .u64 (z i : Nat))) := ⟨fun i => Classical.choose (h2 i), fun i => Classical.choose_spec (h2 i)⟩
  have hl := fun i => (hz i).1
  have hpn := fun k => pN_n4 (hl (4 * k)) (hl (4 * k + 1)) (hl (4 * k + 2)) (hl (4 * k + 3))
  refine ⟨fun k => n4 (z (4 * k)) (z (4 * k + 1)) (z (4 * k + 2)) (z (4 * k + 3)), ?_, fun k => ?_⟩
  · congr 1
    apply Array.ext
    · rw [hsz, ar_size]
    · intro i a b
      have hi : i < 8 := by omega
      have h3 := (hz i).2 hi
      have h4 := ar_at .u64 8 (tabF fun k => n4 (z (4 * k)) (z (4 * k + 1)) (z (4 * k + 2)) (z (4 * k + 3))) i hi
      rw [Array.getElem?_eq_getElem b] at h4
      rw [Array.getElem?_eq_getElem a] at h3
      rw [Option.some.inj h3, Option.some.inj h4]
      unfold tabF
      have h5 := hpn (i / 4)
      have h6 : i % 4 = 0 ∨ i % 4 = 1 ∨ i % 4 = 2 ∨ i % 4 = 3 := by omega
      rcases h6 with e | e | e | e
      · rw [e, h5.1, show 4 * (i / 4) = i by omega]
      · rw [e, h5.2.1, show 4 * (i / 4) + 1 = i by omega]
      · rw [e, h5.2.2.1, show 4 * (i / 4) + 2 = i by omega]
      · rw [e, h5.2.2.2, show 4 * (i / 4) + 3 = i by omega]
  · have a := hl (4 * k)
    have b := hl (4 * k + 1)
    have c := hl (4 * k + 2)
    have d := hl (4 * k + 3)
    show n4 _ _ _ _ < _
    unfold n4
    omega
end Go.Proofs.Ytfgefifplmhopaa
namespace Go.Proofs.Ytfgefifplmhopaa
/-- Two numbers with one square modulo a prime: they are the same, or add up to it. -/
theorem sq_one {p q x : Nat} (hp : Pr p) (hq : q < p) (hx : x < p) (h0 : 0 < x) (h : q * q % p = x * x % p) : q = x ∨ q + x = p := by
  have key : ∀ a b : Nat, a < p → b < p → 0 < b → a ≤ b → a * a % p = b * b % p → a = b ∨ a + b = p := by
    intro a b ha hb h0 hab h
    have hle : a * a ≤ b * b := Nat.mul_le_mul hab hab
    have hd : p ∣ b * b - a * a := (by rw [Nat.dvd_iff_mod_eq_zero]; exact Nat.sub_mod_eq_zero_of_mod_eq h.symm)
    have e : b * b - a * a = (b + a) * (b - a) := by
      obtain ⟨d, rfl⟩ : ∃ d, b = a + d := ⟨b - a, by omega⟩
      rw [Nat.add_sub_cancel_left]
      have : (a + d) * (a + d) = a * a + (a + d + a) * d := by grind
      omega
    rw [e] at hd
    rcases hp.dvd_mul hd with h1 | h1
    · right
      obtain ⟨c, hc⟩ := h1
      have : c = 1 := by
        have h2 : c < 2 := by
          rcases Nat.lt_or_ge c 2 with h | h
          · exact h
          · have : p * 2 ≤ p * c := Nat.mul_le_mul_left p h
            omega
        have h3 : c ≠ 0 := fun h => by rw [h] at hc; omega
        omega
      rw [this] at hc
      omega
    · left
      rcases Nat.eq_zero_or_pos (b - a) with h2 | h2
      · omega
      · have := Nat.le_of_dvd h2 h1
        omega
  rcases Nat.le_total q x with h1 | h1
  · exact key q x hq hx h0 h1 h
  · rcases Nat.eq_zero_or_pos q with h2 | h2
    · exact .inl (by omega)
    · rcases key x q hx hq h2 h1 h.symm with h3 | h3
      · exact .inl h3.symm
      · exact .inr (by omega)
theorem neg_sq {p x : Nat} (hx : x ≤ p) : (p - x) * (p - x) % p = x * x % p := by
  obtain ⟨y, rfl⟩ : ∃ y, p = x + y := ⟨p - x, by omega⟩
  rw [Nat.add_sub_cancel_left]
  have e1 : (y * y + (x + y) * x) = (x * x + (x + y) * y) := by grind
  rw [← Nat.add_mul_mod_self_left (y * y) (x + y) x, e1, Nat.add_mul_mod_self_left]
theorem pow_two_mod (p x e : Nat) : x ^ e % p * (x ^ e % p) % p = (x * x % p) ^ e % p := by
  rw [← Nat.mul_mod, ← Nat.mul_pow, Nat.pow_mod]
/-- Just one of the two has a root. -/
theorem roots_one {m n : Nat} (hp : Pr m) (h3 : m % 4 = 3) (hn : n % m ≠ 0) :
    ¬ (decide (n ^ (m / 2 ^ 2 + 1) % m * (n ^ (m / 2 ^ 2 + 1) % m) % m = n % m) = decide (((0 % m + (m - n % m)) % m) ^ (m / 2 ^ 2 + 1) % m * (((0 % m + (m - n % m)) % m) ^ (m / 2 ^ 2 + 1) % m) % m = ((0 % m + (m - n % m)) % m) % m)) := by
  have h2 := hp.1
  have hx : n % m < m := Nat.mod_lt _ (by omega)
  obtain ⟨x, ex⟩ : ∃ x, n % m = x := ⟨_, rfl⟩
  have eN : (0 % m + (m - n % m)) % m = m - x := by rw [Nat.zero_mod, Nat.zero_add, ex]; exact Nat.mod_eq_of_lt (by omega)
  rw [eN, pow_two_mod, pow_two_mod, neg_sq (by omega), Nat.mod_eq_of_lt (show m - x < m by omega)]
  have en : n * n % m = x * x % m := by rw [Nat.mul_mod, ex]
  rw [en]
  obtain ⟨q, eq⟩ : ∃ q, (x * x % m) ^ (m / 2 ^ 2 + 1) % m = q := ⟨_, rfl⟩
  rw [eq, ex]
  have hq : q < m := by rw [← eq]; exact Nat.mod_lt _ (by omega)
  have hqq : q * q % m = x * x % m := by
    rw [← eq, ← Nat.mul_mod, ← Nat.pow_add, ← Nat.pow_mod, ← Nat.pow_two x, ← Nat.pow_mul, show 2 * (m / 2 ^ 2 + 1 + (m / 2 ^ 2 + 1)) = m + 1 by omega, Nat.pow_succ, Nat.mul_mod, fermat hp]
    rw [← Nat.mul_mod, Nat.pow_two]
  intro he
  rcases sq_one hp hq (show x < m by omega) (by omega) hqq with h4 | h4
  · rw [decide_eq_true h4, decide_eq_false (by omega)] at he
    cases he
  · rw [decide_eq_false (by omega), decide_eq_true (show q = m - x by omega)] at he
    cases he
end Go.Proofs.Ytfgefifplmhopaa
namespace Go.Proofs.Ytfgefifplmhopaa
open Go.RowKit

/-- What is known behind an operation: of its slot, and of the block at which a slot points. -/
inductive Sp
  | val (d : Nat) (v : Value)
  | blk (d : Nat) (T : TypeId)
  | laid (p : Nat) (T : TypeId)
  | own (d : Nat) (f : Value → World → Prop)
  | none

/-- J: what is laid into the block at which a slot points. -/
def Sp.at_ (H : Nat) (J : Nat → Array Value) : Sp → (Nat → Value) → World → Prop
  | .val d v, s, _ => s d = v
  | .blk d T, s, w => ∃ D, s d = .pointer (some ⟨D, 0, Option.none⟩) ∧ H ≤ D ∧ ∃ cs : Array Value, w.heap[D]? = some (.cells cs T (0, 0)) ∧ cs.size = (J d).size
  | .laid p T, s, w => ∃ D, s p = .pointer (some ⟨D, 0, Option.none⟩) ∧ H ≤ D ∧ w.heap[D]? = some (.cells (J p) T (0, 0))
  | .own d f, s, w => f (s d) w
  | .none, _, _ => True
def Sp.rd : Sp → List Nat
  | .val d _ => [d]
  | .blk d _ => [d]
  | .laid p _ => [p]
  | .own d _ => [d]
  | .none => []
def Sp.ok (ps : List Nat) : Sp → Prop
  | .own _ f => ps = [] ∧ ∀ v wa wb, Below wa.heap.size wa wb → f v wa → f v wb
  | .blk d _ => d ∈ ps
  | .laid d _ => d ∈ ps
  | _ => True
def spAt (L : List Sp) (i : Nat) : Sp := L.getD i .none
def okL (ps : List Nat) : List Sp → Prop
  | [] => True
  | p :: l => p.ok ps ∧ okL ps l
theorem okL.at_ {ps : List Nat} : ∀ {L : List Sp}, okL ps L → ∀ i, (spAt L i).ok ps
  | [], _, i => by simp [spAt, Sp.ok]
  | p :: l, h, 0 => by simpa [spAt] using h.1
  | p :: l, h, i + 1 => by simpa [spAt] using okL.at_ h.2 i
theorem Sp.same {H : Nat} {J : Nat → Array Value} {p : Sp} {s s' : Nat → Value} {w : World} (h : ∀ t ∈ p.rd, s t = s' t) (hp : p.at_ H J s w) : p.at_ H J s' w := by
  cases p with
  | val d v => exact (h d (by simp [Sp.rd])).symm.trans hp
  | blk d T => obtain ⟨D, h1, h2⟩ := hp; exact ⟨D, (h d (by simp [Sp.rd])).symm.trans h1, h2⟩
  | laid d T => obtain ⟨D, h1, h2⟩ := hp; exact ⟨D, (h d (by simp [Sp.rd])).symm.trans h1, h2⟩
  | own d f => have e := h d (by simp [Sp.rd]); exact (congrArg (fun v => f v w) e).mp hp
  | none => trivial

/-- Where the results lie (ps: the slots of their addresses): behind what was there, and apart. What lay in these slots ahead of the region points below H. -/
structure AN (ps : List Nat) (H : Nat) (s : Nat → Value) (wx : World) : Prop where
  at_ : ∀ p ∈ ps, ∀ q ∈ ps, p ≠ q → ∀ D, s p = .pointer (some ⟨D, 0, none⟩) → H ≤ D → D < wx.heap.size
  ne : ∀ p ∈ ps, ∀ q ∈ ps, p ≠ q → ∀ D E, s p = .pointer (some ⟨D, 0, none⟩) → s q = .pointer (some ⟨E, 0, none⟩) → H ≤ D → H ≤ E → D ≠ E
theorem AN.start {ps : List Nat} {H : Nat} {s : Nat → Value} {wx : World} (h : ∀ p ∈ ps, ∀ q ∈ ps, p ≠ q → ∀ D, s p = .pointer (some ⟨D, 0, none⟩) → D < H) : AN ps H s wx :=
  ⟨fun p hp q hq hne D e hl => (by have := h p hp q hq hne D e; omega), fun p hp q hq hne D _ e _ hl _ => (by have := h p hp q hq hne D e; omega)⟩
theorem AN.put {ps : List Nat} {H : Nat} {s s' : Nat → Value} {wx w' : World} (h : AN ps H s wx) (e : ∀ p ∈ ps, s' p = s p) (hl : wx.heap.size ≤ w'.heap.size) : AN ps H s' w' :=
  ⟨fun p hp q hq hne D hD hh => Nat.lt_of_lt_of_le (h.at_ p hp q hq hne D ((e p hp) ▸ hD) hh) hl, fun p hp q hq hne D E h1 h2 => h.ne p hp q hq hne D E ((e p hp) ▸ h1) ((e q hq) ▸ h2)⟩
theorem AN.new {ps : List Nat} {H t : Nat} {s s' : Nat → Value} {wx w' : World} (h : AN ps H s wx) (e : s' t = .pointer (some ⟨wx.heap.size, 0, none⟩)) (eo : ∀ p ∈ ps, p ≠ t → s' p = s p) (hl : wx.heap.size < w'.heap.size) : AN ps H s' w' := by
  have ge : ∀ p ∈ ps, ∀ D, s' p = .pointer (some ⟨D, 0, none⟩) → p ≠ t → s p = .pointer (some ⟨D, 0, none⟩) := fun p hp D hD hne => (eo p hp hne) ▸ hD
  refine ⟨fun p hp q hq hne D hD hh => ?_, fun p hp q hq hne D E h1 h2 hh he => ?_⟩
  · by_cases r : p = t
    · subst r; rw [e] at hD; cases hD; exact hl
    · have := h.at_ p hp q hq hne D (ge p hp D hD r) hh; omega
  · by_cases a : p = t
    · subst a
      rw [e] at h1; cases h1
      have := h.at_ q hq p hp (Ne.symm hne) E (ge q hq E h2 (Ne.symm hne)) he
      omega
    · by_cases b : q = t
      · subst b
        rw [e] at h2; cases h2
        have := h.at_ p hp q hq hne D (ge p hp D h1 a) hh
        omega
      · exact h.ne p hp q hq hne D E (ge p hp D h1 a) (ge q hq E h2 b) hh he
/-- What a step does to what was there: nothing, or one of the results is laid. -/
def RNM (H : Nat) (ps : List Nat) (J : Nat → Array Value) (s : Nat → Value) (wa wb : World) : Prop := Below wa.heap.size wa wb ∨ ∃ p ∈ ps, ∃ D, s p = .pointer (some ⟨D, 0, none⟩) ∧ H ≤ D ∧ wb = wa.setRow D (J p)
theorem RNM.same {H : Nat} {ps : List Nat} {J : Nat → Array Value} {s : Nat → Value} (wa : World) : RNM H ps J s wa wa := .inl (Below.refl _ _)
/-- The worlds: what was there is as it was. -/
def CM (w : World) (ps : List Nat) (s : Nat → Value) (wx : World) : Prop := Below w.heap.size w wx ∧ AN ps w.heap.size s wx
theorem Sp.keep {w : World} {ps : List Nat} {J : Nat → Array Value} {p : Sp} (ho : p.ok ps) {s : Nat → Value} {wa wb : World} (hC : CM w ps s wa) (hR : RNM w.heap.size ps J s wa wb) (hp : p.at_ w.heap.size J s wa) : p.at_ w.heap.size J s wb := by
  cases p with
  | val d v => exact hp
  | none => trivial
  | own d f =>
    rcases hR with h | ⟨q, hq, _⟩
    · exact ho.2 _ _ _ h hp
    · rw [ho.1] at hq; cases hq
  | blk d T =>
    obtain ⟨D, h1, hh, cs, h2, h3⟩ := hp
    rcases hR with h | ⟨q, hq, E, hE, he, rfl⟩
    · exact ⟨D, h1, hh, cs, (h.block _ (Array.getElem?_eq_some_iff.1 h2).1).trans h2, h3⟩
    · by_cases e : D = E
      · subst e
        have : q = d := Classical.byContradiction fun hne => hC.2.ne q hq d ho hne D D hE h1 he hh rfl
        subst this
        exact ⟨D, h1, hh, J q, setRow_heap _ _ _ _ _ _ h2, rfl⟩
      · exact ⟨D, h1, hh, cs, (setRow_other _ _ _ _ e).trans h2, h3⟩
  | laid d T =>
    obtain ⟨D, h1, hh, h2⟩ := hp
    rcases hR with h | ⟨q, hq, E, hE, he, rfl⟩
    · exact ⟨D, h1, hh, (h.block _ (Array.getElem?_eq_some_iff.1 h2).1).trans h2⟩
    · by_cases e : D = E
      · subst e
        have : q = d := Classical.byContradiction fun hne => hC.2.ne q hq d ho hne D D hE h1 he hh rfl
        subst this
        exact ⟨D, h1, hh, setRow_heap _ _ _ _ _ _ h2⟩
      · exact ⟨D, h1, hh, (setRow_other _ _ _ _ e).trans h2⟩

/-- A guarded operation whose guard's value is known. -/
theorem yielded_of {ops : Array Oper} {tmps : Array Value} {j d : Nat} {b : Bool} (hd : (ops[j]?).bind (·.dst) = some d) (hv : tmps.getD d undef = .bool b) : yielded ops tmps j = some b := by
  unfold yielded
  have e : tmps[d]? = some (.bool b) := by
    by_cases h : d < tmps.size
    · rw [Array.getElem?_eq_getElem h]
      simpa [h] using hv
    · simp [h, undef] at hv
  rw [hd]
  simp only [Option.bind_some, e]
theorem wanted_of {ops : Array Oper} {tmps : Array Value} {o : Oper} {j d : Nat} {b : Bool} (hg : o.guard = some (j, b)) (hd : (ops[j]?).bind (·.dst) = some d) (hv : tmps.getD d undef = .bool b) : Region.wanted o (yielded ops tmps) = true := by
  unfold Region.wanted
  rw [hg]
  simp only [yielded_of hd hv, beq_self_eq_true]
theorem unwanted_of {ops : Array Oper} {tmps : Array Value} {o : Oper} {j d : Nat} {b c : Bool} (hg : o.guard = some (j, b)) (hd : (ops[j]?).bind (·.dst) = some d) (hv : tmps.getD d undef = .bool c) (hn : (c == b) = false) : Region.wanted o (yielded ops tmps) = false := by
  unfold Region.wanted
  rw [hg]
  simp only [yielded_of hd hv]
  cases b <;> cases c <;> first | rfl | cases hn

section
variable {P : Program} {ops : Array Oper} {Q : Exit → Act → World → Prop} {a0 : Act}
/-- THE LAW. -/
theorem region_many {id : Nat} {l : List Oper} {w : World} (L : List Sp) (ps : List Nat) (J : Nat → Array Value) (rk : Nat → Nat) (hm : P.follows .mixedOrders = true)
    (hB : (distinctB l && rankB l.toArray rk && ownB l.toArray (fun i => (spAt L i).rd) && insideB l.toArray) = true) (hO : okL ps L) (h0 : ∀ p ∈ ps, ∀ q ∈ ps, p ≠ q → ∀ D, a0.tmps.getD p undef = .pointer (some ⟨D, 0, none⟩) → D < w.heap.size)
    (hst : StepsU P l.toArray Q (CM w ps) (fun i s wx => (spAt L i).at_ w.heap.size J s wx) (RNM w.heap.size ps J) a0 0 l)
    (hQ : ∀ (f : Oper → Value) wx, Below w.heap.size w wx → AN ps w.heap.size (slots (putAll f l a0)) wx → (∀ i o, l[i]? = some o → (spAt L i).at_ w.heap.size J (slots (putAll f l a0)) wx) → Q .normal (putAll f l a0) wx) : (Code.region id l.toArray true).wp P Q a0 w :=
  region_tie2 (CM w ps) (fun i s wx => (spAt L i).at_ w.heap.size J s wx) (RNM w.heap.size ps J) (fun i => (spAt L i).rd) rk hm hB ⟨Below.drew (Below.refl _ _), AN.start h0⟩ (fun _ _ _ _ h hp => Sp.same h hp) (fun i _ _ _ hC hR hp => Sp.keep (hO.at_ i) hC hR hp) hst (fun f wx hC hp => hQ f wx hC.1 hC.2 hp)

/-! What each kind of operation must do. -/
variable {w : World} {L : List Sp} {ps : List Nat} {J : Nat → Array Value}
abbrev PhiN (w : World) (L : List Sp) (J : Nat → Array Value) : Nat → (Nat → Value) → World → Prop := fun i s wx => (spAt L i).at_ w.heap.size J s wx
theorem ps_other {ps : List Nat} {a : Act} {d : Nat} {v : Value} (h : ps.all (· != d) = true) : ∀ p ∈ ps, slots (a.put (some d) v) p = slots a p := fun p hp => slots_other a d p v (by
  have := List.all_eq_true.1 h p hp
  have h2 : p ≠ d := by simpa using this
  exact fun e => h2 e.symm)
theorem mm_val {k d : Nat} {o : Oper} {a : Act} {wx : World} (v : Value) (hd : o.dst = some d) (hw : Region.wanted o (yielded ops a.tmps) = true) (hr : (execOp a.eval o).run P wx = .ok (.value v) wx) (hC : CM w ps (slots a) wx) (hps : ps.all (· != d) = true) (hsz : d < a.tmps.size) (hv : spAt L k = .val d v) : StepU P ops Q (CM w ps) (PhiN w L J) (RNM w.heap.size ps J) k o a wx :=
  uu_val v hw hr (by rw [hd]; exact ⟨hC.1, hC.2.put (ps_other hps) (Nat.le_refl _)⟩) (by rw [hd]; show (spAt L k).at_ w.heap.size J _ _; rw [hv]; exact slots_put _ _ _ hsz) (RNM.same _)
theorem mm_skip {k d : Nat} {o : Oper} {a : Act} {wx : World} (hd : o.dst = some d) (hw : Region.wanted o (yielded ops a.tmps) = false) (hC : CM w ps (slots a) wx) (hps : ps.all (· != d) = true) (hsz : d < a.tmps.size) (hv : spAt L k = .val d undef) : StepU P ops Q (CM w ps) (PhiN w L J) (RNM w.heap.size ps J) k o a wx :=
  uu_skip hw (by rw [hd]; exact ⟨hC.1, hC.2.put (ps_other hps) (Nat.le_refl _)⟩) (by rw [hd]; show (spAt L k).at_ w.heap.size J _ _; rw [hv]; exact slots_put _ _ _ hsz)
theorem mm_sem {k d : Nat} {o : Oper} {a : Act} {wx : World} (s : Sem Value) (v : Value) (hd : o.dst = some d) (hw : Region.wanted o (yielded ops a.tmps) = true) (ho : execOp a.eval o = (do let x ← s; pure (.value x))) (hr : s.run P wx = .ok v wx) (hC : CM w ps (slots a) wx) (hps : ps.all (· != d) = true) (hsz : d < a.tmps.size) (hv : spAt L k = .val d v) : StepU P ops Q (CM w ps) (PhiN w L J) (RNM w.heap.size ps J) k o a wx :=
  mm_val v hd hw (by rw [ho]; simp only [Sem.run_bind, hr, Result.andThen_ok, Sem.run_pure]) hC hps hsz hv
theorem mm_load {k d : Nat} {o : Oper} {a : Act} {wx : World} (T : TypeId) (x : Operand) (p v : Value) (hd : o.dst = some d) (ho : o.op = .load T x) (hw : Region.wanted o (yielded ops a.tmps) = true) (hp : a.eval x = p)
    (hr : (Instr.loadAt T p).run P wx = .ok v wx) (hC : CM w ps (slots a) wx) (hps : ps.all (· != d) = true) (hsz : d < a.tmps.size) (hv : spAt L k = .val d v) : StepU P ops Q (CM w ps) (PhiN w L J) (RNM w.heap.size ps J) k o a wx :=
  mm_val v hd hw (by
    unfold execOp
    rw [ho]
    simp only [hp, Sem.run_bind, hr, Result.andThen_ok, Sem.run_pure]) hC hps hsz hv
theorem mm_bin {k d : Nat} {o : Oper} {a : Act} {wx : World} (op : BinOp) (T : TypeId) (x y : Operand) (t : TypeId) (u v r : Value) (hd : o.dst = some d) (ho : o.op = .binOp op T x y t) (hw : Region.wanted o (yielded ops a.tmps) = true) (hx : a.eval x = u) (hy : a.eval y = v)
    (hg : (eqGuard op T x y u v).run P wx = .ok () wx) (hb : (binOp op T u v).run P wx = .ok r wx) (hC : CM w ps (slots a) wx) (hps : ps.all (· != d) = true) (hsz : d < a.tmps.size) (hv : spAt L k = .val d r) : StepU P ops Q (CM w ps) (PhiN w L J) (RNM w.heap.size ps J) k o a wx :=
  mm_val r hd hw (by
    unfold execOp
    rw [ho]
    simp only [hx, hy, Sem.run_bind, hg, hb, Result.andThen_ok, Sem.run_pure]) hC hps hsz hv
theorem mm_call {k d : Nat} {o : Oper} {a : Act} {wx : World} (f : FuncId) (args : Array Value) (v : Value) (hd : o.dst = some d) (hw : Region.wanted o (yielded ops a.tmps) = true) (he : (execOp a.eval o).run P wx = .ok (.enter f args) wx)
    (hc : Calls P f args wx fun e w' => e = .returned v ∧ Below wx.heap.size wx w') (hC : CM w ps (slots a) wx) (hps : ps.all (· != d) = true) (hsz : d < a.tmps.size) (hv : spAt L k = .val d v) : StepU P ops Q (CM w ps) (PhiN w L J) (RNM w.heap.size ps J) k o a wx :=
  uu_call f args hw he (hc.mono fun e w' hh => ⟨v, hh.1, by rw [hd]; exact ⟨hC.1.trans (hh.2.mono hC.1.size), hC.2.put (ps_other hps) hh.2.size⟩, by rw [hd]; show (spAt L k).at_ w.heap.size J _ _; rw [hv]; exact slots_put _ _ _ hsz, .inl hh.2⟩)
/-- A call whose answer is not known by itself. -/
theorem mm_callx {k d : Nat} {o : Oper} {a : Act} {wx : World} (f : FuncId) (args : Array Value) (g : Value → World → Prop) (hd : o.dst = some d) (hw : Region.wanted o (yielded ops a.tmps) = true) (he : (execOp a.eval o).run P wx = .ok (.enter f args) wx)
    (hc : Calls P f args wx fun e w' => ∃ v, e = .returned v ∧ g v w' ∧ Below wx.heap.size wx w') (hC : CM w ps (slots a) wx) (hps : ps.all (· != d) = true) (hsz : d < a.tmps.size) (hv : spAt L k = .own d g) : StepU P ops Q (CM w ps) (PhiN w L J) (RNM w.heap.size ps J) k o a wx :=
  uu_call f args hw he (hc.mono fun e w' ⟨v, h1, h2, h3⟩ => ⟨v, h1, by rw [hd]; exact ⟨hC.1.trans (h3.mono hC.1.size), hC.2.put (ps_other hps) h3.size⟩, by rw [hd]; show (spAt L k).at_ w.heap.size J _ _; rw [hv]; show g _ _; rw [slots_put _ _ _ hsz]; exact h2, .inl h3⟩)
/-- A fresh block. -/
theorem mm_new {k d : Nat} {o : Oper} {a : Act} {wx : World} (T : TypeId) (z : Array Value) (hd : o.dst = some d) (hw : Region.wanted o (yielded ops a.tmps) = true) (hr : (execOp a.eval o).run P wx = .ok (.value (.pointer (some ⟨wx.heap.size, 0, none⟩))) (wx.alloc (.cells z T))) (hC : CM w ps (slots a) wx) (hz : z.size = (J d).size) (hsz : d < a.tmps.size) (hv : spAt L k = .blk d T) : StepU P ops Q (CM w ps) (PhiN w L J) (RNM w.heap.size ps J) k o a wx := by
  have hb : Below wx.heap.size wx (wx.alloc (.cells z T)) := (Below.refl _ _).alloc (Nat.le_refl _) _
  refine uu_new (.pointer (some ⟨wx.heap.size, 0, none⟩)) hw hr ?_ ?_ (.inl hb)
  · rw [hd]
    exact ⟨hC.1.trans (hb.mono hC.1.size), hC.2.new (slots_put _ _ _ hsz) (fun p _ hne => slots_other _ _ _ _ (Ne.symm hne)) (by simp)⟩
  · rw [hd]
    show (spAt L k).at_ w.heap.size J _ _
    rw [hv]
    exact ⟨_, slots_put _ _ _ hsz, hC.1.size, z, heap_alloc_new _ _, hz⟩
/-- .. and what is laid there. -/
theorem mm_store {k p : Nat} {o : Oper} {a : Act} {wx : World} (T : TypeId) (x y : Operand) (v : Value) (hd : o.dst = none) (ho : o.op = .store T x y) (hw : Region.wanted o (yielded ops a.tmps) = true) (hx : a.eval x = slots a p) (hy : a.eval y = v) (hp : p ∈ ps)
    (hk : (Sp.blk p T).at_ w.heap.size J (slots a) wx) (hr : ∀ D cs, wx.heap[D]? = some (.cells cs T (0, 0)) → cs.size = (J p).size → (Instr.storeAt T (.pointer (some ⟨D, 0, none⟩)) v).run P wx = .ok () (wx.setRow D (J p))) (hC : CM w ps (slots a) wx) (hv : spAt L k = .laid p T) : StepU P ops Q (CM w ps) (PhiN w L J) (RNM w.heap.size ps J) k o a wx := by
  obtain ⟨D, h1, hh, cs, h2, h3⟩ := hk
  refine uu_store (w' := wx.setRow D (J p)) hw hd ?_ ⟨below_setRow hC.1 hh _, hC.2.put (fun _ _ => rfl) (by simp)⟩ ?_ (.inr ⟨p, hp, D, h1, hh, rfl⟩)
  · unfold execOp
    rw [ho]
    simp only [hx, h1, hy, Sem.run_bind, hr D cs h2 h3, Result.andThen_ok, Sem.run_pure]
  · show (spAt L k).at_ w.heap.size J _ _
    rw [hv]
    exact ⟨D, h1, hh, setRow_heap _ _ _ _ _ _ h2⟩
end
end Go.Proofs.Ytfgefifplmhopaa


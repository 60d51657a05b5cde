/- What (*Field).Exp comes to. (With it, merged: FPin · FNeg · FMdl · QL · FNew · Tie1 · Pair · FTab · FPow · FExp.) -/
import Derived.Test.YtfgefifplmhopaaM6
import Derived.Test.YtfgefifplmhopaaM1
import Derived.Test.YtfgefifplmhopaaM5
import Derived.Deep.DeepCutAuto
import Derived.Deep.MidRow
namespace Go.Proofs.Ytfgefifplmhopaa
open Go.RowKit
set_option maxRecDepth 100000 in
set_option maxHeartbeats 2000000 in
-- WHAT partInverse COMES TO.
theorem pinv_any (p : Nat) (hp : p < 18446744073709551616) (w : World) : Calls Try.prog 60 #[.int .u64 (p : Nat)] w fun e w' => e = .returned (.int .u64 (pin p 5 : Nat)) ∧ w = w' := by
  have HP := Lib.hid hp
  clear hp
  go_enter Try.func60, Try.ntmps60
  go_wp2_with fail
  go_loopw [3, 5] (fun v iv wr => ∃ k : Nat, k ≤ 5 ∧ iv = .int .i64 k ∧ v = .int .u64 (pin p k : Nat) ∧ w = wr) (fun _ iv _ => 5 - (intOf iv).toNat)
  case atStart => exact ⟨0, by omega, rfl, rfl, rfl⟩
  case round =>
    obtain ⟨k, hk, rfl, rfl, rfl⟩ := hrel
    have hk0 : (0 : Int) ≤ k := by omega
    by_cases hlt : k < 5
    · have hlt' : (k : Int) < 5 := by omega
      have hxl := pin_lt p k HP.out
      have HX := Lib.hid (show pin p (k + 1) = nst p (pin p k) from rfl)
      obtain ⟨x, hx⟩ : ∃ x, pin p k = x := ⟨_, rfl⟩
      rw [hx] at hxl HX ⊢
      obtain ⟨y, hy⟩ : ∃ y, p * x % 18446744073709551616 = y := ⟨_, rfl⟩
      obtain ⟨z, hz⟩ : ∃ z, (18446744073709551616 + 2 - y) % 18446744073709551616 = z := ⟨_, rfl⟩
      obtain ⟨u, hu⟩ : ∃ u, x * z % 18446744073709551616 = u := ⟨_, rfl⟩
      have h1 : IntKind.u64.wrap ((p : Int) * x) = (y : Int) := by rw [IntKind.wrap_u64]; omega
      have hyl : y < 18446744073709551616 := by rw [← hy]; exact Nat.mod_lt _ (by omega)
      have h2 : IntKind.u64.wrap (2 - (y : Int)) = (z : Int) := by rw [IntKind.wrap_u64, ← hz]; omega
      have h3 : IntKind.u64.wrap ((x : Int) * z) = (u : Int) := by rw [IntKind.wrap_u64]; omega
      have HU := Lib.hid (show pin p (k + 1) = u from by rw [HX.out]; unfold nst; rw [hy, hz, hu])
      have HK := Lib.hid hlt
      clear hx HX hy hz hu hyl hxl hlt hk
      go_wp2_with fail
      go_roundw
      case rel => exact ⟨k + 1, by have := HK.out; omega, by go_num, by rw [HU.out], trivial⟩
      case measure => have := HK.out; simp [intOf]; omega
    · obtain rfl : k = 5 := by omega
      have hlt' : ¬ ((5 : Nat) : Int) < 5 := by omega
      simp only [Int.cast_ofNat_Int]
      go_wp2_with fail
      go_ret
      exact ⟨rfl, rfl⟩
end Go.Proofs.Ytfgefifplmhopaa
namespace Go.Proofs.Ytfgefifplmhopaa
open Go.RowKit
theorem pw_zero : pw 0 = #[.int .u64 0, .int .u64 0, .int .u64 0, .int .u64 0] := by kernel_rfl
set_option maxRecDepth 100000 in
set_option maxHeartbeats 2000000 in
-- WHAT Neg COMES TO.
theorem fneg_any (F m a : Nat) (ha : a < 115792089237316195423570985008687907853269984665640564039457584007913129639936) (w : World) (hF : FldAt w F m) : Calls Try.prog 17 #[.pointer (some ⟨F, 0, none⟩), .agg (pw a)] w fun e w' => e = .returned (.agg (pw ((0 % m + (m - a % m)) % m))) ∧ Below w.heap.size w w' := by
  have H0 := Lib.hid (CW.one hF a)
  have HT := Lib.hid (CW.calls (w := w) (F := F) (m := m) (L := [(w.heap.size + 1, #[.int .u64 0, .int .u64 0, .int .u64 0, .int .u64 0]), (w.heap.size, pw a)]) (fun wx hf => fsub_any F m 0 a (by omega) ha wx hf))
  rw [pw_zero] at HT
  obtain ⟨y, hy⟩ : ∃ y, (0 % m + (m - a % m)) % m = y := ⟨_, rfl⟩
  rw [hy] at HT ⊢
  clear hy hF ha
  go_enter Try.func17, Try.ntmps17
  go_wp2_with (refine wpList_ld rfl 24 _ rfl (.pointer (some ⟨w.heap.size, 0, none⟩)) (.agg (pw a)) rfl (ld_pw (by exact H0.out.is _ _ (by simp))) ?_)
  refine (HT.out _ H0.out).mono ?_
  rintro e w5 ⟨rfl, c⟩
  have HC := Lib.hid c
  clear c HT H0
  go_wp2_with (refine wpList_store_row rfl 24 _ _ rfl (w.heap.size + 1) (pw y) rfl rfl 24 (#[.int .u64 0, .int .u64 0, .int .u64 0, .int .u64 0]) (by exact HC.out.is _ _ (by simp)) (by rw [pw_size]; exact infoW4) (by first | rfl | (rw [pw_size]; rfl) | (rw [pw_size, pw_size])) (pw_one _) ?_)
  (try simp only [Act.put])
  refine bodyPost_ret (v := .agg (pw y)) (results_cell_row (p := 4) rfl _ _ (w.heap.size + 1) 24 (pw y) (0, 0) _ rfl (setRow_heap _ _ _ _ _ _ (by exact HC.out.is _ (#[.int .u64 0, .int .u64 0, .int .u64 0, .int .u64 0]) (by simp))) Try.underlying24 rfl (by rw [pw_size]; exact infoW4)) rfl ⟨rfl, below_setRow HC.out.old (by omega) _⟩
set_option maxRecDepth 100000 in
set_option maxHeartbeats 2000000 in
-- WHAT Modulus COMES TO.
theorem fmodulus_any (F m : Nat) (w : World) (hF : FldAt w F m) : Calls Try.prog 11 #[.pointer (some ⟨F, 0, none⟩)] w fun e w' => e = .returned (.agg (pw m)) ∧ Below w.heap.size w w' := by
  have H0 := Lib.hid (show CW w F m [(w.heap.size, #[.int .u64 0, .int .u64 0, .int .u64 0, .int .u64 0])] (w.alloc (.cells #[.int .u64 0, .int .u64 0, .int .u64 0, .int .u64 0] 24)) from (CW.start hF).new #[.int .u64 0, .int .u64 0, .int .u64 0, .int .u64 0])
  clear hF
  go_enter Try.func11, Try.ntmps11
  go_wp2_with (first | (refine wpList_ld rfl 24 _ rfl (.pointer (some ⟨F, 0, none⟩)) (.agg (pw m)) rfl (ld_m (by exact H0.out.fld)) ?_) | (refine wpList_store_row rfl 24 _ _ rfl (w.heap.size) (pw m) rfl rfl 24 (#[.int .u64 0, .int .u64 0, .int .u64 0, .int .u64 0]) (by exact H0.out.is _ _ (by simp)) (by rw [pw_size]; exact infoW4) (by first | rfl | (rw [pw_size]; rfl) | (rw [pw_size, pw_size])) (pw_one _) ?_))
  (try simp only [Act.put])
  refine bodyPost_ret (v := .agg (pw m)) (results_cell_row (p := 2) rfl _ _ (w.heap.size) 24 (pw m) (0, 0) _ rfl (setRow_heap _ _ _ _ _ _ (by exact H0.out.is _ (#[.int .u64 0, .int .u64 0, .int .u64 0, .int .u64 0]) (by simp))) Try.underlying24 rfl (by rw [pw_size]; exact infoW4)) rfl ⟨rfl, below_setRow H0.out.old (by omega) _⟩
end Go.Proofs.Ytfgefifplmhopaa
namespace Go.Proofs.Ytfgefifplmhopaa
open Go.RowKit
theorem arr_lit4 (t : Array Value) : t = ((List.range t.size).map fun i => t.getD i undef).toArray := by
  apply Array.ext
  · simp
  · intro i h1 h2
    simp [Array.getD, h1]
/-- The worlds of modulo: the modulus, and one word more. -/
structure CN (w : World) (m g a : Nat) (wx : World) : Prop where
  old : Below w.heap.size w wx
  r0 : wx.heap[w.heap.size]? = some (.cells (pw m) 24 (0, 0))
  r1 : wx.heap[g]? = some (.cells (pw a) 24 (0, 0))
  hg : w.heap.size < g
theorem CN.high {w wx : World} {m g a : Nat} (c : CN w m g a wx) : g + 1 ≤ wx.heap.size := (Array.getElem?_eq_some_iff.1 c.r1).1
theorem CN.below {w wx w' : World} {m g a : Nat} (c : CN w m g a wx) (hb : Below wx.heap.size wx w') : CN w m g a w' :=
  ⟨c.old.trans (hb.mono c.old.size), (hb.block _ (Array.getElem?_eq_some_iff.1 c.r0).1).trans c.r0, (hb.block _ (Array.getElem?_eq_some_iff.1 c.r1).1).trans c.r1, c.hg⟩
theorem CN.drew {w wx : World} {m g a : Nat} (c : CN w m g a wx) : CN w m g a wx.drew := c.below (Below.drew (Below.refl _ _))
theorem CN.rowed {w wx : World} {m g a D : Nat} {cs : Array Value} (c : CN w m g a wx) (hD : g + 1 ≤ D) : CN w m g a (wx.setRow D cs) := by
  have := c.hg
  exact ⟨below_setRow c.old (by omega) _, (setRow_other _ _ _ _ (by omega)).trans c.r0, (setRow_other _ _ _ _ (by omega)).trans c.r1, c.hg⟩
theorem CN.calls {w : World} {m g a : Nat} {f : FuncId} {args : Array Value} {v : Value} (h : ∀ wx, Calls Try.prog f args wx fun e w' => e = .returned v ∧ Below wx.heap.size wx w') : ∀ wx, CN w m g a wx → Calls Try.prog f args wx fun e w' => e = .returned v ∧ CN w m g a w' :=
  fun wx c => (h wx).mono fun _ _ hh => ⟨hh.1, c.below hh.2⟩
theorem q_un4 {P : Program} {ops : Array Oper} {C : World → Prop} {Q : Act → Prop} {a : Act} {o : Oper} {rest : List Oper} (op : UnOp) (T : TypeId) (x : Operand) (u r : Value) (ho : o.op = .unOp op T x) (hw : Region.wanted o (yielded ops a.tmps) = true) (hx : a.eval x = u)
    (hb : ∀ w, (Op.unary op u).run P w = .ok r w) (h : wpQuiet P ops C Q rest (a.put o.dst r)) : wpQuiet P ops C Q (o :: rest) a :=
  q_val r hw (fun w hC => by
    unfold execOp
    rw [ho]
    simp only [hx, Sem.run_bind, hb w, Result.andThen_ok, Sem.run_pure]) h
/-- What is laid. -/
def FW (y : Nat) (_ : TypeId) : Array Value := pw y
theorem pw_one4 : pw 1 = pw 1 := rfl
theorem sq_ones (m : Nat) : (115792089237316195423570985008687907853269984665640564039457584007913129639936 - 1 - 0 + 1) % m * ((115792089237316195423570985008687907853269984665640564039457584007913129639936 - 1 - 0 + 1) % m) % m = sqr m := by
  unfold sqr
  rw [show 115792089237316195423570985008687907853269984665640564039457584007913129639936 - 1 - 0 + 1 = 115792089237316195423570985008687907853269984665640564039457584007913129639936 from rfl, ← Nat.mul_mod]
theorem neg_u (a b : Nat) (h : (18446744073709551616 - a) % 18446744073709551616 = b) (hl : a < 18446744073709551616) (w : World) : (Op.unary .neg (.int .u64 (a : Nat))).run Try.prog w = .ok (.int .u64 (b : Nat)) w := by
  have e : IntKind.u64.wrap (-(a : Int)) = (b : Int) := by rw [IntKind.wrap_u64]; omega
  go_simp
theorem pN0 (m : Nat) : pN m 0 = m % 18446744073709551616 := by unfold pN; simp
theorem frw_lit {m : Nat} : ar .u64 9 (fun j => ((frw m j : Nat) : Int)) = #[.int .u64 ((pN m 0 : Nat) : Int), .int .u64 ((pN m 1 : Nat) : Int), .int .u64 ((pN m 2 : Nat) : Int), .int .u64 ((pN m 3 : Nat) : Int), .int .u64 ((nin m : Nat) : Int), .int .u64 ((pN (sqr m) 0 : Nat) : Int), .int .u64 ((pN (sqr m) 1 : Nat) : Int), .int .u64 ((pN (sqr m) 2 : Nat) : Int), .int .u64 ((pN (sqr m) 3 : Nat) : Int)] := by
  kernel_rfl
theorem pw4 (x : Nat) : pw x = #[.int .u64 ((pN x 0 : Nat) : Int), .int .u64 ((pN x 1 : Nat) : Int), .int .u64 ((pN x 2 : Nat) : Int), .int .u64 ((pN x 3 : Nat) : Int)] := by
  rw [pw_ar]
  kernel_rfl
set_option maxRecDepth 100000 in
set_option maxHeartbeats 1000000 in
-- WHAT modulo COMES TO.
theorem modulo_any (m : Nat) (ho : m % 2 = 1) (h1 : 1 < m) (hm : m < 115792089237316195423570985008687907853269984665640564039457584007913129639936) (w : World) : Calls Try.prog 31 #[.agg (pw m)] w fun e w' => ∃ F, e = .returned (.pointer (some ⟨F, 0, none⟩)) ∧ FldAt w' F m ∧ w.heap.size ≤ F ∧ Below w.heap.size w w' := by
  have HNT := Lib.hid (fun wx => not_pw 0 (by omega) wx)
  rw [pw_zero] at HNT
  have HO := Lib.hid (And.intro ho (And.intro h1 hm))
  obtain ⟨ao, ha⟩ : ∃ ao, 115792089237316195423570985008687907853269984665640564039457584007913129639936 - 1 - 0 = ao := ⟨_, rfl⟩
  have hal : ao < 115792089237316195423570985008687907853269984665640564039457584007913129639936 := by omega
  rw [ha] at HNT
  obtain ⟨so, hs⟩ : ∃ so, (ao + 1) % m = so := ⟨_, rfl⟩
  have hsl : so < 115792089237316195423570985008687907853269984665640564039457584007913129639936 := by rw [← hs]; exact Nat.lt_trans (Nat.mod_lt _ (by omega)) hm
  have HAM := Lib.hid (fun wx => addmod_pw ao 1 m hal (by omega) (by omega) hm wx)
  rw [hs] at HAM
  have HMM := Lib.hid (fun wx => mulmod_pw so so m hsl hsl (by omega) hm wx)
  rw [← hs, ← ha, sq_ones, ha, hs] at HMM
  rw [pw4 (sqr m)] at HMM
  have HPI := Lib.hid (fun wx => pinv_any (pN m 0) (pN_lt m 0) wx)
  have HNI := Lib.hid (show (18446744073709551616 - pin (pN m 0) 5) % 18446744073709551616 = nin m from by unfold nin; rw [pN0 m])
  have HPL := Lib.hid (pin_lt (pN m 0) 5 (pN_lt m 0))
  clear ho h1 hm hal hsl ha hs
  go_enter Try.func31, Try.ntmps31
  go_wp2_with fail
  refine (HNT.out _).mono ?_
  rintro e w1 ⟨rfl, hb1⟩
  obtain ⟨g, hg⟩ : ∃ g, w1.heap.size = g := ⟨_, rfl⟩
  have H1 := Lib.hid (show CN w m g ao ((w1.alloc (.cells #[.int .u64 0, .int .u64 0, .int .u64 0, .int .u64 0] 24)).setRow w1.heap.size (pw ao)) from by
    have h0 : w.heap.size < w1.heap.size := by have := hb1.size; rw [World.size_alloc] at this; omega
    rw [← hg]
    exact ⟨below_setRow (((show Below w.heap.size w (w.alloc (.cells (pw m) 24)) from by go_grown).trans (hb1.mono (by simp))).alloc (by omega) _) (by omega) _, (setRow_other _ _ _ _ (by omega)).trans ((((Below.refl w1.heap.size w1).alloc (Nat.le_refl _) _).block _ h0).trans ((hb1.block _ (by simp)).trans (heap_alloc_new _ _))), setRow_heap _ _ _ _ _ _ (heap_alloc_new _ _), h0⟩)
  have HG := Lib.hid (And.intro hg (heap_alloc_new w1 (.cells #[.int .u64 0, .int .u64 0, .int .u64 0, .int .u64 0] 24)))
  clear hb1 hg HNT
  go_wp2_with (refine wpList_store_row rfl 24 _ _ rfl w1.heap.size (pw ao) rfl rfl 24 (#[.int .u64 0, .int .u64 0, .int .u64 0, .int .u64 0]) (by exact HG.out.2) (by rw [pw_size]; exact infoW4) (by rw [pw_size]; rfl) (pw_one _) ?_)
  obtain ⟨w2, hw2⟩ : ∃ w2, (w1.alloc (.cells #[.int .u64 0, .int .u64 0, .int .u64 0, .int .u64 0] 24)).setRow w1.heap.size (pw ao) = w2 := ⟨_, rfl⟩
  rw [hw2] at H1 ⊢
  rw [HG.out.1]
  clear hw2 HG
  refine region_tie (CN w m g ao) (fun i s wx => match i with | 0 => s 7 = (.agg (pw ao)) | 1 => s 8 = (.agg (pw 1)) | 2 => s 9 = (.agg (pw m)) | 3 => s 10 = (.agg (pw so)) | 4 => ∃ D, s 4 = .pointer (some ⟨D, 0, none⟩) ∧ (g + 1) ≤ D ∧ ∃ cs : Array Value, wx.heap[D]? = some (.cells cs 24 (0, 0)) ∧ cs.size = 4 | 5 => ∃ D, s 4 = .pointer (some ⟨D, 0, none⟩) ∧ (g + 1) ≤ D ∧ wx.heap[D]? = some (.cells (FW so 24) 24 (0, 0)) | _ => True) (RT (g + 1) (FW so)) (fun i => match i with | 0 => [7] | 1 => [8] | 2 => [9] | 3 => [10] | 4 => [4] | 5 => [4] | _ => []) (fun i => i) (by kernel_rfl) (by kernel_rfl) H1.out.drew ?_ ?_ ?_ ?_
  · intro i s s' wx he hp
    match i, he, hp with
    | 0, he, hp => exact (he 7 (by simp)).symm.trans hp
    | 1, he, hp => exact (he 8 (by simp)).symm.trans hp
    | 2, he, hp => exact (he 9 (by simp)).symm.trans hp
    | 3, he, hp => exact (he 10 (by simp)).symm.trans hp
    | 4, he, hp => obtain ⟨D, h1, h2⟩ := hp; exact ⟨D, (he 4 (by simp)).symm.trans h1, h2⟩
    | 5, he, hp => obtain ⟨D, h1, h2⟩ := hp; exact ⟨D, (he 4 (by simp)).symm.trans h1, h2⟩
    | _ + 6, _, _ => trivial
  · intro i s wa wb hR hp
    match i, hp with
    | 0, hp => exact hp
    | 1, hp => exact hp
    | 2, hp => exact hp
    | 3, hp => exact hp
    | 4, hp => obtain ⟨D, h1, h2, cs, h3, h4⟩ := hp; obtain ⟨cs', h5, h6⟩ := hR.shape _ _ _ _ h3; exact ⟨D, h1, h2, cs', h5, h6.trans h4⟩
    | 5, hp => obtain ⟨D, h1, h2, h3⟩ := hp; exact ⟨D, h1, h2, hR.keep _ _ _ h3⟩
    | _ + 6, _ => trivial
  · refine ⟨?_, ?_, ?_, ?_, ?_, ?_, trivial⟩
    · intro a wx hC hsz hK
      have h0 : a.tmps.getD 3 undef = (.pointer (some ⟨g, 0, none⟩)) := hK.1 3 (by kernel_rfl)
      exact tt_load 24 (.tmp 3) ((.pointer (some ⟨g, 0, none⟩))) ((.agg (pw ao))) rfl (by kernel_rfl) h0 (ld_pw hC.r1) hC (slots_put _ _ _ (by rw [hsz]; exact of_decide_eq_true (by kernel_rfl))) (RT.refl _ _ _)
    · intro a wx hC hsz hK
      refine tt_call 30 #[(.int .u64 (1 : Nat))] (by kernel_rfl) (by kernel_rfl) ?_
      exact (of_wv 1 (by omega) wx).mono fun e w' hh => ⟨_, hh.1, hC.below hh.2, (slots_put _ _ _ (by rw [hsz]; exact of_decide_eq_true (by kernel_rfl))), RT.of hC.high hh.2⟩
    · intro a wx hC hsz hK
      have h0 : a.tmps.getD 1 undef = (.pointer (some ⟨w.heap.size, 0, none⟩)) := hK.1 1 (by kernel_rfl)
      exact tt_load 24 (.tmp 1) ((.pointer (some ⟨w.heap.size, 0, none⟩))) ((.agg (pw m))) rfl (by kernel_rfl) h0 (ld_pw hC.r0) hC (slots_put _ _ _ (by rw [hsz]; exact of_decide_eq_true (by kernel_rfl))) (RT.refl _ _ _)
    · intro a wx hC hsz hK
      have h0 : a.tmps.getD 7 undef = (.agg (pw ao)) := hK.2 ⟨0, .data⟩ (by simp) rfl _ rfl
      have h1 : a.tmps.getD 8 undef = (.agg (pw 1)) := hK.2 ⟨1, .data⟩ (by simp) rfl _ rfl
      have h2 : a.tmps.getD 9 undef = (.agg (pw m)) := hK.2 ⟨2, .data⟩ (by simp) rfl _ rfl
      refine tt_call 59 #[a.tmps.getD 7 undef, a.tmps.getD 8 undef, a.tmps.getD 9 undef] (by kernel_rfl) (by kernel_rfl) ?_
      rw [h0, h1, h2]
      exact (HAM.out wx).mono fun e w' hh => ⟨_, hh.1, hC.below hh.2, (slots_put _ _ _ (by rw [hsz]; exact of_decide_eq_true (by kernel_rfl))), RT.of hC.high hh.2⟩
    · intro a wx hC hsz hK
      exact tt_new (.pointer (some ⟨wx.heap.size, 0, none⟩)) (by kernel_rfl) (by kernel_rfl) (hC.below ((Below.refl _ _).alloc (Nat.le_refl _) _)) ⟨_, (slots_put _ _ _ (by rw [hsz]; exact of_decide_eq_true (by kernel_rfl))), hC.high, #[.int .u64 0, .int .u64 0, .int .u64 0, .int .u64 0], heap_alloc_new _ _, rfl⟩ (RT.of hC.high ((Below.refl _ _).alloc (Nat.le_refl _) _))
    · intro a wx hC hsz hK
      obtain ⟨D, h1, h2, cs, h3, h4⟩ := hK.2 ⟨4, .data⟩ (by simp) rfl _ rfl
      have h0 : a.tmps.getD 10 undef = (.agg (pw so)) := hK.2 ⟨3, .data⟩ (by simp) rfl _ rfl
      exact tt_store (by kernel_rfl) rfl (run_store 24 (.tmp 4) (.tmp 10) _ _ rfl h1 h0 (store_w h4 h3)) (hC.rowed h2) ⟨D, h1, h2, setRow_heap _ _ _ _ _ _ h3⟩ (RT.row h2 h3 (by rw [h4]; rfl))
  intro f1 wx hC hf1
  obtain ⟨D, s4', hDl, hD⟩ := hf1 5 _ rfl
  have H2 := Lib.hid (show CN w m D so wx from ⟨hC.old, hC.r0, hD, by have := hC.hg; omega⟩)
  clear hC hD hDl
  generalize hAct : putAll _ _ _ = G at *
  have s1 : G.tmps.getD 1 undef = .pointer (some ⟨w.heap.size, 0, none⟩) := by subst hAct; kernel_rfl
  have s4c : G.tmps.getD 4 undef = .pointer (some ⟨D, 0, none⟩) := s4'
  have hsz : G.tmps.size = 22 := by rw [← hAct, putAll_size]; rfl
  have hdf : G.defers = [] := by subst hAct; kernel_rfl
  clear hAct hf1 s4' H1 HAM
  obtain ⟨u0, t0⟩ : ∃ u, G.tmps.getD 0 undef = u := ⟨_, rfl⟩
  obtain ⟨u2, t2⟩ : ∃ u, G.tmps.getD 2 undef = u := ⟨_, rfl⟩
  obtain ⟨u3, t3⟩ : ∃ u, G.tmps.getD 3 undef = u := ⟨_, rfl⟩
  obtain ⟨u5, t5⟩ : ∃ u, G.tmps.getD 5 undef = u := ⟨_, rfl⟩
  obtain ⟨u6, t6⟩ : ∃ u, G.tmps.getD 6 undef = u := ⟨_, rfl⟩
  obtain ⟨u7, t7⟩ : ∃ u, G.tmps.getD 7 undef = u := ⟨_, rfl⟩
  obtain ⟨u8, t8⟩ : ∃ u, G.tmps.getD 8 undef = u := ⟨_, rfl⟩
  obtain ⟨u9, t9⟩ : ∃ u, G.tmps.getD 9 undef = u := ⟨_, rfl⟩
  obtain ⟨u10, t10⟩ : ∃ u, G.tmps.getD 10 undef = u := ⟨_, rfl⟩
  obtain ⟨u11, t11⟩ : ∃ u, G.tmps.getD 11 undef = u := ⟨_, rfl⟩
  obtain ⟨u12, t12⟩ : ∃ u, G.tmps.getD 12 undef = u := ⟨_, rfl⟩
  obtain ⟨u13, t13⟩ : ∃ u, G.tmps.getD 13 undef = u := ⟨_, rfl⟩
  obtain ⟨u14, t14⟩ : ∃ u, G.tmps.getD 14 undef = u := ⟨_, rfl⟩
  obtain ⟨u15, t15⟩ : ∃ u, G.tmps.getD 15 undef = u := ⟨_, rfl⟩
  obtain ⟨u16, t16⟩ : ∃ u, G.tmps.getD 16 undef = u := ⟨_, rfl⟩
  obtain ⟨u17, t17⟩ : ∃ u, G.tmps.getD 17 undef = u := ⟨_, rfl⟩
  obtain ⟨u18, t18⟩ : ∃ u, G.tmps.getD 18 undef = u := ⟨_, rfl⟩
  obtain ⟨u19, t19⟩ : ∃ u, G.tmps.getD 19 undef = u := ⟨_, rfl⟩
  obtain ⟨u20, t20⟩ : ∃ u, G.tmps.getD 20 undef = u := ⟨_, rfl⟩
  obtain ⟨u21, t21⟩ : ∃ u, G.tmps.getD 21 undef = u := ⟨_, rfl⟩
  obtain ⟨tm, df⟩ := G
  simp only at *
  have hLt := arr_lit4 tm
  rw [hsz] at hLt
  simp only [List.range, List.range.loop, List.map] at hLt
  rw [t0, s1, t2, t3, s4c, t5, t6, t7, t8, t9, t10, t11, t12, t13, t14, t15, t16, t17, t18, t19, t20, t21] at hLt
  subst hLt hdf
  clear t0 s1 t2 t3 s4c t5 t6 t7 t8 t9 t10 t11 t12 t13 t14 t15 t16 t17 t18 t19 t20 t21 hsz
  go_wp2_with fail
  refine region_quiet_tail 10 (CN w m D so) (by kernel_rfl) (by kernel_rfl) (H2.out.drew) ?_
  simp only [List.take_succ_cons, List.take_zero, List.drop_succ_cons, List.drop_zero]
  with_reducible refine q_load 24 (.tmp 1) (.pointer (some ⟨w.heap.size, 0, none⟩)) (.agg #[.int .u64 ((pN m 0 : Nat) : Int), .int .u64 ((pN m 1 : Nat) : Int), .int .u64 ((pN m 2 : Nat) : Int), .int .u64 ((pN m 3 : Nat) : Int)]) rfl (by kernel_rfl) (by kernel_rfl) (fun _ c => (by rw [← pw4]; exact ld_pw c.r0)) ?_
  with_reducible refine q_sem2 (Instr.indexAt 24 (.pointer (some ⟨w.heap.size, 0, none⟩)) (.int .i64 (0 : Nat))) (.pointer (some ⟨w.heap.size, 0, none⟩)) (by kernel_rfl) (by kernel_rfl) (fun w' _ => by kernel_rfl) ?_
  with_reducible refine q_load 22 (.tmp 12) (.pointer (some ⟨w.heap.size, 0, none⟩)) (.int .u64 (pN m 0 : Nat)) rfl (by kernel_rfl) (by kernel_rfl) (fun _ c => load_u64 _ _ _ _ ((cell_of_row _ _ 0 _ _ _ c.r0).trans (by rw [pw4]; simp))) ?_
  with_reducible refine q_call 60 #[.int .u64 (pN m 0 : Nat)] (.int .u64 (pin (pN m 0) 5 : Nat)) (by kernel_rfl) (fun _ => by kernel_rfl) (fun wx c => (HPI.out wx).mono fun e w' hh => ⟨hh.1, hh.2 ▸ c⟩) ?_
  with_reducible refine q_un4 .neg 22 (.tmp 14) (.int .u64 (pin (pN m 0) 5 : Nat)) (.int .u64 (nin m : Nat)) rfl (by kernel_rfl) (by kernel_rfl) (fun w' => neg_u _ _ HNI.out HPL.out w') ?_
  with_reducible refine q_load 24 (.tmp 4) (.pointer (some ⟨D, 0, none⟩)) (.agg (pw so)) rfl (by kernel_rfl) (by kernel_rfl) (fun _ c => ld_pw c.r1) ?_
  with_reducible refine q_load 24 (.tmp 4) (.pointer (some ⟨D, 0, none⟩)) (.agg (pw so)) rfl (by kernel_rfl) (by kernel_rfl) (fun _ c => ld_pw c.r1) ?_
  with_reducible refine q_load 24 (.tmp 1) (.pointer (some ⟨w.heap.size, 0, none⟩)) (.agg (pw m)) rfl (by kernel_rfl) (by kernel_rfl) (fun _ c => ld_pw c.r0) ?_
  with_reducible refine q_call 61 #[.agg (pw so), .agg (pw so), .agg (pw m)] (.agg #[.int .u64 ((pN (sqr m) 0 : Nat) : Int), .int .u64 ((pN (sqr m) 1 : Nat) : Int), .int .u64 ((pN (sqr m) 2 : Nat) : Int), .int .u64 ((pN (sqr m) 3 : Nat) : Int)]) (by kernel_rfl) (fun _ => by kernel_rfl) (CN.calls HMM.out) ?_
  with_reducible refine q_val (.agg #[.int .u64 ((pN m 0 : Nat) : Int), .int .u64 ((pN m 1 : Nat) : Int), .int .u64 ((pN m 2 : Nat) : Int), .int .u64 ((pN m 3 : Nat) : Int), .int .u64 ((nin m : Nat) : Int), .int .u64 ((pN (sqr m) 0 : Nat) : Int), .int .u64 ((pN (sqr m) 1 : Nat) : Int), .int .u64 ((pN (sqr m) 2 : Nat) : Int), .int .u64 ((pN (sqr m) 3 : Nat) : Int)]) (by kernel_rfl) (fun _ _ => by kernel_rfl) ?_
  with_reducible refine wpQuiet_nil ?_
  intro wx hC
  have HC := Lib.hid hC
  clear hC H2
  simp only [Act.put, List.setIfInBounds_toArray, List.set_cons_succ, List.set_cons_zero]
  go_wp2_with fail
  go_ret
  exact ⟨wx.heap.size, rfl, ⟨by rw [frw_lit]; exact heap_alloc_new _ _, HO.out.1, HO.out.2.1, HO.out.2.2⟩, HC.out.old.size, HC.out.old.alloc HC.out.old.size _⟩
end Go.Proofs.Ytfgefifplmhopaa
namespace Go.Proofs.Ytfgefifplmhopaa
open Go.RowKit

section
variable {P : Program} {ops : Array Oper} {C : World → Prop} {Q : Exit → Act → World → Prop}
theorem wpList_quiet : ∀ (l : List Oper) (a : Act) (w : World), C w → wpQuiet P ops C (fun a' => ∀ w', C w' → Q .normal a' w') l a → wpList P ops Q l a w
  | [], _, w, hC, h => h w hC
  | o :: l, a, w, hC, h => by
    unfold wpQuiet at h
    unfold wpList
    split
    · rename_i hw
      rw [if_pos hw] at h
      exact .inl (Oper.wp_of_quiet hC (fun a' w' hC' hK => wpList_quiet l a' w' hC' hK) h)
    · rename_i hw
      rw [if_neg hw] at h
      exact wpList_quiet l _ w hC h
theorem q_region {id : Nat} {l : List Oper} {a : Act} {w : World} (C : World → Prop) (hC : C w) (h : wpQuiet P l.toArray C (fun a' => ∀ w', C w' → Q .normal a' w') l a) : (Code.region id l.toArray false).wp P Q a w :=
  wp_region_list (by simpa using wpList_quiet l a w hC (by simpa using h))
end
end Go.Proofs.Ytfgefifplmhopaa
namespace Go.Proofs.Ytfgefifplmhopaa
open Go.RowKit
theorem eqi_pw (a b : Nat) (ha : a < 115792089237316195423570985008687907853269984665640564039457584007913129639936) (hb : b < 115792089237316195423570985008687907853269984665640564039457584007913129639936) : ∀ w, (Op.equalIn 10000 24 (.agg (pw a)) (.agg (pw b))).run Try.prog w = .ok (decide (a = b)) w := by
  obtain ⟨x0, x1, x2, x3, u0, u1, u2, u3, ex, nx⟩ := wv_parts a
  obtain ⟨y0, y1, y2, y3, v0, v1, v2, v3, ey, ny⟩ := wv_parts b
  rw [wv_pw] at ex ey
  rw [ex, ey]
  intro w
  have h := eqW x0 x1 x2 x3 y0 y1 y2 y3 w
  have e : ((x0 == y0) && ((x1 == y1) && ((x2 == y2) && (x3 == y3)))) = decide (a = b) := by
    rw [Nat.mod_eq_of_lt ha] at nx
    rw [Nat.mod_eq_of_lt hb] at ny
    rw [← nx, ← ny, Bool.eq_iff_iff]
    simp only [Bool.and_eq_true, beq_iff_eq, decide_eq_true_eq]
    unfold n4; omega
  rw [e] at h
  exact h
theorem eqw_run (a b : Nat) (ha : a < 115792089237316195423570985008687907853269984665640564039457584007913129639936) (hb : b < 115792089237316195423570985008687907853269984665640564039457584007913129639936) (w : World) : (binOp BinOp.eql 24 (.agg (pw a)) (.agg (pw b))).run Try.prog w = .ok (.bool (decide (a = b))) w := by
  have h := eqi_pw a b ha hb
  obtain ⟨x0, x1, x2, x3, -, -, -, -, ex, -⟩ := wv_parts a
  obtain ⟨y0, y1, y2, y3, -, -, -, -, ey, -⟩ := wv_parts b
  rw [wv_pw] at ex ey
  rw [ex, ey] at h ⊢
  go_simp
theorem new_run (a b : Nat) (ha : a < 115792089237316195423570985008687907853269984665640564039457584007913129639936) (hb : b < 115792089237316195423570985008687907853269984665640564039457584007913129639936) (w : World) : (binOp BinOp.neq 24 (.agg (pw a)) (.agg (pw b))).run Try.prog w = .ok (.bool (!decide (a = b))) w := by
  have h := eqi_pw a b ha hb
  obtain ⟨x0, x1, x2, x3, -, -, -, -, ex, -⟩ := wv_parts a
  obtain ⟨y0, y1, y2, y3, -, -, -, -, ey, -⟩ := wv_parts b
  rw [wv_pw] at ex ey
  rw [ex, ey] at h ⊢
  go_simp
theorem rem2 (x b : Nat) (h : x % 2 = b) (hx : x < 18446744073709551616) (w : World) : (binOp BinOp.rem 22 (.int .u64 (x : Nat)) (.int .u64 2)).run Try.prog w = .ok (.int .u64 (b : Nat)) w := by
  have hx0 : (0 : Int) ≤ x := by omega
  have e : (x : Int).tmod 2 = (b : Int) := by rw [Int.tmod_eq_emod_of_nonneg hx0]; omega
  have e2 : (x : Int) % 2 = (b : Int) := by omega
  have e3 : IntKind.u64.wrap (b : Int) = (b : Int) := by rw [IntKind.wrap_u64]; omega
  go_simp
theorem pN02 (m : Nat) : pN m 0 % 2 = m % 2 := by rw [pN0 m]; omega
/-- The worlds with the given word in a block. -/
structure CBm (w : World) (m : Nat) (wx : World) : Prop where
  old : Below w.heap.size w wx
  r0 : wx.heap[w.heap.size]? = some (.cells (pw m) 24 (0, 0))
theorem CBm.below {w wx w' : World} {m : Nat} (c : CBm w m wx) (hb : Below wx.heap.size wx w') : CBm w m w' :=
  ⟨c.old.trans (hb.mono c.old.size), (hb.block _ (Array.getElem?_eq_some_iff.1 c.r0).1).trans c.r0⟩
theorem CBm.drew {w wx : World} {m : Nat} (c : CBm w m wx) : CBm w m wx.drew := c.below (Below.drew (Below.refl _ _))
theorem CBm.start (w : World) (m : Nat) : CBm w m (w.alloc (.cells (pw m) 24)) := ⟨by go_grown, heap_alloc_new _ _⟩
theorem CBm.calls {w : World} {m : Nat} {f : FuncId} {args : Array Value} {v : Value} (h : ∀ wx, Calls Try.prog f args wx fun e w' => e = .returned v ∧ Below wx.heap.size wx w') : ∀ wx, CBm w m wx → Calls Try.prog f args wx fun e w' => e = .returned v ∧ CBm w m w' :=
  fun wx c => (h wx).mono fun _ _ hh => ⟨hh.1, c.below hh.2⟩
set_option maxRecDepth 100000 in
set_option maxHeartbeats 2000000 in
-- WHAT New COMES TO: refused.
theorem fnew_none (m : Nat) (hm : m < 115792089237316195423570985008687907853269984665640564039457584007913129639936) (h : m % 2 = 0 ∨ m = 1) (w : World) : Calls Try.prog 8 #[.agg (pw m)] w fun e w' => e = .returned (.tuple #[.pointer none, .int .i64 1]) ∧ Below w.heap.size w w' := by
  have H0 := Lib.hid (CBm.start w m)
  have HM := Lib.hid hm
  by_cases h0 : m % 2 = 0
  · have HB := Lib.hid h0
    clear h h0 hm
    go_enter Try.func8, Try.ntmps8
    go_wp2_with fail
    refine wp_region_quiet (C := CBm w m) (by kernel_rfl) (by kernel_rfl) (H0.out.drew) ?_
    simp only
    with_reducible refine q_sem2 (Instr.indexAt 24 (.pointer (some ⟨w.heap.size, 0, none⟩)) (.int .i64 (0 : Nat))) (.pointer (some ⟨w.heap.size, 0, none⟩)) (by kernel_rfl) (by kernel_rfl) (fun w' _ => by kernel_rfl) ?_
    with_reducible refine q_load 22 (.tmp 4) (.pointer (some ⟨w.heap.size, 0, none⟩)) (.int .u64 (pN m 0 : Nat)) rfl (by kernel_rfl) (by kernel_rfl) (fun _ c => load_u64 _ _ _ _ ((cell_of_row _ _ 0 _ _ _ c.r0).trans (by rw [pw4]; simp))) ?_
    with_reducible refine q_bin .rem 22 (.tmp 5) _ 22 (.int .u64 (pN m 0 : Nat)) (.int .u64 2) (.int .u64 (0 : Nat)) rfl (by kernel_rfl) (by kernel_rfl) (by kernel_rfl) (fun _ => by kernel_rfl) (fun w' => rem2 _ _ ((pN02 m).trans HB.out) (pN_lt _ _) w') ?_
    with_reducible refine q_bin .eql 22 (.tmp 6) _ 22 (.int .u64 (0 : Nat)) (.int .u64 0) (.bool true) rfl (by kernel_rfl) (by kernel_rfl) (by kernel_rfl) (fun _ => by kernel_rfl) (fun w' => (by kernel_rfl)) ?_
    with_reducible refine q_val (.bool true) (by kernel_rfl) (fun _ _ => by kernel_rfl) ?_
    with_reducible refine q_skip (by kernel_rfl) ?_
    with_reducible refine q_skip (by kernel_rfl) ?_
    with_reducible refine q_skip (by kernel_rfl) ?_
    with_reducible refine q_val (.bool true) (by kernel_rfl) (fun _ _ => by kernel_rfl) ?_
    with_reducible refine wpQuiet_nil ?_
    intro wx hC
    have HC := Lib.hid hC
    clear hC H0
    simp only [Act.put, List.setIfInBounds_toArray, List.set_cons_succ, List.set_cons_zero]
    go_wp2_with fail
    go_ret2
    exact ⟨rfl, HC.out.old⟩
  · have hm1 : m = 1 := h.resolve_left h0
    have HB := Lib.hid (show m % 2 = 1 by omega)
    have HE := Lib.hid (show decide (m = 1) = true from decide_eq_true hm1)
    clear h h0 hm hm1
    go_enter Try.func8, Try.ntmps8
    go_wp2_with fail
    refine wp_region_quiet (C := CBm w m) (by kernel_rfl) (by kernel_rfl) (H0.out.drew) ?_
    simp only
    with_reducible refine q_sem2 (Instr.indexAt 24 (.pointer (some ⟨w.heap.size, 0, none⟩)) (.int .i64 (0 : Nat))) (.pointer (some ⟨w.heap.size, 0, none⟩)) (by kernel_rfl) (by kernel_rfl) (fun w' _ => by kernel_rfl) ?_
    with_reducible refine q_load 22 (.tmp 4) (.pointer (some ⟨w.heap.size, 0, none⟩)) (.int .u64 (pN m 0 : Nat)) rfl (by kernel_rfl) (by kernel_rfl) (fun _ c => load_u64 _ _ _ _ ((cell_of_row _ _ 0 _ _ _ c.r0).trans (by rw [pw4]; simp))) ?_
    with_reducible refine q_bin .rem 22 (.tmp 5) _ 22 (.int .u64 (pN m 0 : Nat)) (.int .u64 2) (.int .u64 (1 : Nat)) rfl (by kernel_rfl) (by kernel_rfl) (by kernel_rfl) (fun _ => by kernel_rfl) (fun w' => rem2 _ _ ((pN02 m).trans HB.out) (pN_lt _ _) w') ?_
    with_reducible refine q_bin .eql 22 (.tmp 6) _ 22 (.int .u64 (1 : Nat)) (.int .u64 0) (.bool false) rfl (by kernel_rfl) (by kernel_rfl) (by kernel_rfl) (fun _ => by kernel_rfl) (fun w' => (by kernel_rfl)) ?_
    with_reducible refine q_val (.bool false) (by kernel_rfl) (fun _ _ => by kernel_rfl) ?_
    with_reducible refine q_load 24 (.tmp 1) (.pointer (some ⟨w.heap.size, 0, none⟩)) (.agg (pw m)) rfl (by kernel_rfl) (by kernel_rfl) (fun _ c => ld_pw c.r0) ?_
    with_reducible refine q_call 30 #[.int .u64 (1 : Nat)] (.agg (pw 1)) (by kernel_rfl) (fun _ => by kernel_rfl) (CBm.calls (fun wx => of_wv 1 (by omega) wx)) ?_
    with_reducible refine q_bin .eql 24 _ _ 24 (.agg (pw m)) (.agg (pw 1)) (.bool true) rfl (by kernel_rfl) (by kernel_rfl) (by kernel_rfl) (fun _ => by kernel_rfl) (fun w' => (eqw_run m 1 HM.out (by omega) w').trans (by rw [HE.out])) ?_
    with_reducible refine q_val (.bool true) (by kernel_rfl) (fun _ _ => by kernel_rfl) ?_
    with_reducible refine wpQuiet_nil ?_
    intro wx hC
    have HC := Lib.hid hC
    clear hC H0
    simp only [Act.put, List.setIfInBounds_toArray, List.set_cons_succ, List.set_cons_zero]
    go_wp2_with fail
    go_ret2
    exact ⟨rfl, HC.out.old⟩
set_option maxRecDepth 100000 in
set_option maxHeartbeats 2000000 in
-- .. and taken.
theorem fnew_some (m : Nat) (hm : m < 115792089237316195423570985008687907853269984665640564039457584007913129639936) (ho : m % 2 = 1) (h1 : 1 < m) (w : World) : Calls Try.prog 8 #[.agg (pw m)] w fun e w' => ∃ F, e = .returned (.tuple #[.pointer (some ⟨F, 0, none⟩), .int .i64 0]) ∧ FldAt w' F m ∧ w.heap.size ≤ F ∧ Below w.heap.size w w' := by
  have H0 := Lib.hid (CBm.start w m)
  have HM := Lib.hid hm
  have HB := Lib.hid ho
  have HE := Lib.hid (show decide (m = 1) = false from decide_eq_false (by omega))
  have HMO := Lib.hid (fun wx => modulo_any m ho h1 hm wx)
  clear ho h1 hm
  go_enter Try.func8, Try.ntmps8
  go_wp2_with fail
  refine wp_region_quiet (C := CBm w m) (by kernel_rfl) (by kernel_rfl) (H0.out.drew) ?_
  simp only
  with_reducible refine q_sem2 (Instr.indexAt 24 (.pointer (some ⟨w.heap.size, 0, none⟩)) (.int .i64 (0 : Nat))) (.pointer (some ⟨w.heap.size, 0, none⟩)) (by kernel_rfl) (by kernel_rfl) (fun w' _ => by kernel_rfl) ?_
  with_reducible refine q_load 22 (.tmp 4) (.pointer (some ⟨w.heap.size, 0, none⟩)) (.int .u64 (pN m 0 : Nat)) rfl (by kernel_rfl) (by kernel_rfl) (fun _ c => load_u64 _ _ _ _ ((cell_of_row _ _ 0 _ _ _ c.r0).trans (by rw [pw4]; simp))) ?_
  with_reducible refine q_bin .rem 22 (.tmp 5) _ 22 (.int .u64 (pN m 0 : Nat)) (.int .u64 2) (.int .u64 (1 : Nat)) rfl (by kernel_rfl) (by kernel_rfl) (by kernel_rfl) (fun _ => by kernel_rfl) (fun w' => rem2 _ _ ((pN02 m).trans HB.out) (pN_lt _ _) w') ?_
  with_reducible refine q_bin .eql 22 (.tmp 6) _ 22 (.int .u64 (1 : Nat)) (.int .u64 0) (.bool false) rfl (by kernel_rfl) (by kernel_rfl) (by kernel_rfl) (fun _ => by kernel_rfl) (fun w' => (by kernel_rfl)) ?_
  with_reducible refine q_val (.bool false) (by kernel_rfl) (fun _ _ => by kernel_rfl) ?_
  with_reducible refine q_load 24 (.tmp 1) (.pointer (some ⟨w.heap.size, 0, none⟩)) (.agg (pw m)) rfl (by kernel_rfl) (by kernel_rfl) (fun _ c => ld_pw c.r0) ?_
  with_reducible refine q_call 30 #[.int .u64 (1 : Nat)] (.agg (pw 1)) (by kernel_rfl) (fun _ => by kernel_rfl) (CBm.calls (fun wx => of_wv 1 (by omega) wx)) ?_
  with_reducible refine q_bin .eql 24 _ _ 24 (.agg (pw m)) (.agg (pw 1)) (.bool false) rfl (by kernel_rfl) (by kernel_rfl) (by kernel_rfl) (fun _ => by kernel_rfl) (fun w' => (eqw_run m 1 HM.out (by omega) w').trans (by rw [HE.out])) ?_
  with_reducible refine q_val (.bool false) (by kernel_rfl) (fun _ _ => by kernel_rfl) ?_
  with_reducible refine wpQuiet_nil ?_
  intro wx hC
  have HC := Lib.hid hC
  clear hC H0
  simp only [Act.put, List.setIfInBounds_toArray, List.set_cons_succ, List.set_cons_zero]
  go_wp2_with (refine wpList_ld rfl 24 _ rfl (.pointer (some ⟨w.heap.size, 0, none⟩)) (.agg (pw m)) rfl (ld_pw (by exact HC.out.r0)) ?_)
  refine (HMO.out _).mono ?_
  rintro e w5 ⟨F, rfl, hF, hs, hb⟩
  have HF := Lib.hid (And.intro hF (And.intro hs hb))
  clear hF hs hb
  go_wp2_with fail
  go_ret2
  exact ⟨F, rfl, HF.out.1, Nat.le_trans HC.out.old.size HF.out.2.1, HC.out.old.trans (HF.out.2.2.mono HC.out.old.size)⟩
set_option maxRecDepth 100000 in
set_option maxHeartbeats 2000000 in
-- WHAT the reference's Is COMES TO.
theorem ris_any (m : Nat) (hm : m < 115792089237316195423570985008687907853269984665640564039457584007913129639936) (w : World) : Calls Try.prog 9 #[.agg (pw m)] w fun e w' => e = .returned (.bool (decide (m % 2 = 1 ∧ m ≠ 1))) ∧ Below w.heap.size w w' := by
  have H0 := Lib.hid (CBm.start w m)
  have hpl := pN_lt m 0
  obtain ⟨p, hp⟩ : ∃ p, pN m 0 = p := ⟨_, rfl⟩
  have hc : (w.alloc (.cells (pw m) 24)).cell? ⟨w.heap.size, 0, none⟩ = some (.int .u64 (p : Nat)) := (cell_of_row _ _ 0 _ _ _ H0.out.r0).trans (by rw [pw4, ← hp]; simp)
  have HPP := Lib.hid hp
  rw [hp] at hpl
  have hp2 : p % 2 = m % 2 := by rw [← hp]; exact pN02 m
  have hnq := fun w => new_run m 1 hm (by omega) w
  rw [show pw 1 = #[.int .u64 1, .int .u64 0, .int .u64 0, .int .u64 0] from by kernel_rfl] at hnq
  have hr := fun b hb w => rem2 p b hb hpl w
  by_cases h0 : m % 2 = 1
  · have hr1 := hr 1 (by omega)
    have HG := Lib.hid (show (!decide (m = 1)) = decide (m % 2 = 1 ∧ m ≠ 1) from by simp [h0])
    obtain ⟨b, hb⟩ : ∃ b, (!decide (m = 1)) = b := ⟨_, rfl⟩
    have hpi : (p : Int) % 2 = 1 := by omega
    have hpt : (p : Int).tmod 2 = 1 := by rw [Int.tmod_eq_emod_of_nonneg (by omega)]; omega
    rw [hb] at HG hnq
    rw [← HG.out]
    clear hm hr h0 hb hp hp2
    go_enter Try.func9, Try.ntmps9
    go_upto_region 1 with (fail)
    refine q_region (CBm w m) (H0.out) ?_
    with_reducible refine q_sem2 (Instr.indexAt 24 (.pointer (some ⟨w.heap.size, 0, none⟩)) (.int .i64 (0 : Nat))) (.pointer (some ⟨w.heap.size, 0, none⟩)) (by kernel_rfl) (by kernel_rfl) (fun w' _ => by kernel_rfl) ?_
    with_reducible refine q_load 22 (.tmp 3) (.pointer (some ⟨w.heap.size, 0, none⟩)) (.int .u64 (p : Nat)) rfl (by kernel_rfl) (by kernel_rfl) (fun _ c => load_u64 _ _ _ _ ((cell_of_row _ _ 0 _ _ _ c.r0).trans (by rw [pw4, ← HPP.out]; simp))) ?_
    with_reducible refine q_bin .rem 22 (.tmp 4) _ 22 (.int .u64 (p : Nat)) (.int .u64 2) (.int .u64 (1 : Nat)) rfl (by kernel_rfl) (by kernel_rfl) (by kernel_rfl) (fun _ => by kernel_rfl) (fun w' => hr1 w') ?_
    with_reducible refine q_bin .eql 22 (.tmp 5) _ 22 (.int .u64 (1 : Nat)) (.int .u64 1) (.bool true) rfl (by kernel_rfl) (by kernel_rfl) (by kernel_rfl) (fun _ => by kernel_rfl) (fun w' => (by kernel_rfl)) ?_
    with_reducible refine q_val (.bool true) (by kernel_rfl) (fun _ _ => by kernel_rfl) ?_
    with_reducible refine q_load 24 (.tmp 1) (.pointer (some ⟨w.heap.size, 0, none⟩)) (.agg (pw m)) rfl (by kernel_rfl) (by kernel_rfl) (fun _ c => ld_pw c.r0) ?_
    with_reducible refine q_val (.agg #[.int .u64 1, .int .u64 0, .int .u64 0, .int .u64 0]) (by kernel_rfl) (fun _ _ => by kernel_rfl) ?_
    with_reducible refine q_bin .neq 24 _ _ 24 (.agg (pw m)) (.agg #[.int .u64 1, .int .u64 0, .int .u64 0, .int .u64 0]) (.bool b) rfl (by kernel_rfl) (by kernel_rfl) (by kernel_rfl) (fun _ => by kernel_rfl) (fun w' => hnq w') ?_
    with_reducible refine q_val (.bool b) (by kernel_rfl) (fun _ _ => by kernel_rfl) ?_
    with_reducible refine q_val (.bool b) (by kernel_rfl) (fun _ _ => by kernel_rfl) ?_
    with_reducible refine wpQuiet_nil ?_
    intro wx hC
    have HC := Lib.hid hC
    clear hC H0
    simp only [Act.put, List.setIfInBounds_toArray, List.set_cons_succ, List.set_cons_zero]
    go_wp2_with fail
    go_ret
    exact ⟨rfl, HC.out.old⟩
  · have hr1 := hr 0 (by omega)
    have hpi : (p : Int) % 2 = 0 := by omega
    have hpt : (p : Int).tmod 2 = 0 := by rw [Int.tmod_eq_emod_of_nonneg (by omega)]; omega
    have HG := Lib.hid (show false = decide (m % 2 = 1 ∧ m ≠ 1) from by simp [h0])
    rw [← HG.out]
    clear hm hr h0 hp hp2
    go_enter Try.func9, Try.ntmps9
    go_wp2_with (refine wpList_ld rfl 24 _ rfl (.pointer (some ⟨w.heap.size, 0, none⟩)) (.agg (pw m)) rfl (ld_pw (by exact H0.out.r0)) ?_)
    go_ret
    exact ⟨rfl, H0.out.old⟩
end Go.Proofs.Ytfgefifplmhopaa
namespace Go.Proofs.Ytfgefifplmhopaa
open Go.RowKit

section
variable {P : Program} {ops : Array Oper} {Q : Exit → Act → World → Prop} {C : (Nat → Value) → World → Prop} {φ : Nat → (Nat → Value) → World → Prop} {R : (Nat → Value) → World → World → Prop} {a0 : Act}

def StepU (P : Program) (ops : Array Oper) (Q : Exit → Act → World → Prop) (C : (Nat → Value) → World → Prop) (φ : Nat → (Nat → Value) → World → Prop) (R : (Nat → Value) → World → World → Prop) (k : Nat) (o : Oper) (a : Act) (w : World) : Prop :=
  if Region.wanted o (yielded ops a.tmps) then o.wp P a w (fun a' w' => ∃ v, a' = a.put o.dst v ∧ C (slots (a.put o.dst v)) w' ∧ φ k (slots (a.put o.dst v)) w' ∧ R (slots a) w w') Q else (C (slots (a.put o.dst undef)) w ∧ φ k (slots (a.put o.dst undef)) w)
def StepsU (P : Program) (ops : Array Oper) (Q : Exit → Act → World → Prop) (C : (Nat → Value) → World → Prop) (φ : Nat → (Nat → Value) → World → Prop) (R : (Nat → Value) → World → World → Prop) (a0 : Act) : Nat → List Oper → Prop
  | _, [] => True
  | k, o :: l => (∀ a w, C (slots a) w → a.tmps.size = a0.tmps.size → KnownT ops φ a0 o a w → StepU P ops Q C φ R k o a w) ∧ StepsU P ops Q C φ R a0 (k + 1) l
theorem StepsU.at_ : ∀ {l : List Oper} {k : Nat}, StepsU P ops Q C φ R a0 k l → ∀ (i : Nat) (o : Oper), l[i]? = some o → ∀ a w, C (slots a) w → a.tmps.size = a0.tmps.size → KnownT ops φ a0 o a w → StepU P ops Q C φ R (k + i) o a w
  | [], _, _, i, o, hi => by simp at hi
  | o :: l, k, h, 0, o', hi => by simp at hi; subst hi; exact h.1
  | o :: l, k, h, i + 1, o', hi => by
    have := StepsU.at_ h.2 i o' (by simpa using hi)
    rwa [show k + 1 + i = k + (i + 1) by omega] at this

theorem wpAny_tie2 (rd : Nat → List Nat) (rk : Nat → Nat) (hdist : distinctB ops.toList = true) (hlex : rankB ops rk = true) (hon : ∀ (i : Nat) (o : Oper), ops[i]? = some o → ∀ e ∈ o.after, e.on < ops.size) (hown : ownB ops rd = true)
    (hrd : ∀ i s s' w, (∀ t ∈ rd i, s t = s' t) → φ i s w → φ i s' w)
    (hφ : ∀ i s w w', C s w → R s w w' → φ i s w → φ i s w') (hst : StepsU P ops Q C φ R a0 0 ops.toList)
    (hQ : ∀ (f : Oper → Value) w, C (slots (putAll f ops.toList a0)) w → (∀ i o, ops[i]? = some o → φ i (slots (putAll f ops.toList a0)) w) → Q .normal (putAll f ops.toList a0) w) :
    ∀ (fuel : Nat) (listed : Array Bool) (a : Act) (w : World), listed.size = ops.size → listed.toList.count false ≤ fuel → C (slots a) w → a.tmps.size = a0.tmps.size → a.defers = a0.defers →
      (∀ t, isDst ops.toList t = false → a.tmps.getD t undef = a0.tmps.getD t undef) → (∀ i o, listed.getD i false = true → ops[i]? = some o → φ i (slots a) w ∧ ∀ e ∈ o.after, Region.binds .any e = true → listed.getD e.on false = true) → wpAny P .any ops Q fuel listed a w := by
  have done : ∀ (listed : Array Bool) (a : Act) (w : World), (∀ i, i < ops.size → listed.getD i false = true) → C (slots a) w → a.tmps.size = a0.tmps.size → a.defers = a0.defers →
      (∀ t, isDst ops.toList t = false → a.tmps.getD t undef = a0.tmps.getD t undef) → (∀ i o, listed.getD i false = true → ops[i]? = some o → φ i (slots a) w ∧ ∀ e ∈ o.after, Region.binds .any e = true → listed.getD e.on false = true) → Q .normal a w := by
    intro listed a w hall hC hs hd hk hp
    have hb := put_back hs hd hk
    rw [hb]
    exact hQ _ w (by rw [← hb]; exact hC) (fun i o ho => by rw [← hb]; exact (hp i o (hall i (Array.getElem?_eq_some_iff.1 ho).1) ho).1)
  intro fuel
  induction fuel with
  | zero =>
    intro listed a w hsz hc hC hs hd hk hp
    have hno : false ∉ listed.toList := List.count_eq_zero.1 (by omega)
    have hall : ∀ i, i < ops.size → listed.getD i false = true := fun i hi => by
      have hlt : i < listed.size := by omega
      have hm : listed[i] ∈ listed.toList := by simp
      simp only [Array.getD_eq_getD_getElem?, hlt, Array.getElem?_eq_getElem, Option.getD_some]
      cases h : listed[i] with
      | true => rfl
      | false => rw [h] at hm; exact absurd hm hno
    refine ⟨?_, done listed a w hall hC hs hd hk hp⟩
    rw [List.eq_nil_iff_forall_not_mem]
    intro j hj
    obtain ⟨h0, o, ho, -⟩ := mem_ready.1 hj
    have hlt := (Array.getElem?_eq_some_iff.1 ho).1
    have h1 := hall j hlt
    simp [show j < listed.size by omega] at h0 h1
    rw [h0] at h1
    cases h1
  | succ fuel ih =>
    intro listed a w hsz hc hC hs hd hk hp
    refine ⟨fun hr => ?_, fun i hi => ?_⟩
    · refine done listed a w ?_ hC hs hd hk hp
      -- the least that isn't listed would be ready
      have key : ∀ r i, rk i < r → i < ops.size → listed.getD i false = true := by
        intro r
        induction r with
        | zero => intro i h; omega
        | succ r ihr =>
          intro i hri hi
          cases h : listed.getD i false with
          | true => rfl
          | false =>
            have ho : ops[i]? = some ops[i] := Array.getElem?_eq_getElem hi
            have : i ∈ Region.ready .any ops listed := mem_ready.2 ⟨by simpa [show i < listed.size by omega] using h, ops[i], ho, fun e he hb => by
              have hl := hlex
              unfold rankB at hl
              rw [List.all_eq_true] at hl
              have := hl i (by simpa using hi)
              rw [ho] at this
              simp only [Array.all_eq_true_iff_forall_mem] at this
              have hlt := this e he
              rw [hb] at hlt
              simp at hlt
              exact ihr e.on (by omega) (hon i _ ho e he)⟩
            rw [hr] at this
            cases this
      exact fun i hi => key (rk i + 1) i (by omega) hi
    · obtain ⟨h0, o, ho, hall⟩ := mem_ready.1 hi
      have hlt : i < ops.size := (Array.getElem?_eq_some_iff.1 ho).1
      have hl' : ops.toList[i]? = some o := by simpa using ho
      have hstep := hst.at_ i o hl' a w hC hs ⟨hk, fun e he hb oj hj => (hp e.on oj (by have := hall e he hb; simpa using this) hj).1⟩
      rw [Nat.zero_add] at hstep
      have go : ∀ (v : Value) (w' : World), C (slots (a.put o.dst v)) w' → φ i (slots (a.put o.dst v)) w' → (∀ j, φ j (slots a) w → φ j (slots a) w') → wpAny P .any ops Q fuel (listed.setIfInBounds i true) (a.put o.dst v) w' := by
        intro v w' hC' hv hm
        refine ih _ _ _ (by simpa using hsz) ?_ hC' (by rw [put_size]; exact hs) (by rw [put_defers]; exact hd) ?_ ?_
        · have hil : i < listed.size := by omega
          have e0 : listed[i] = false := by simpa [hil] using h0
          rw [Array.toList_setIfInBounds, List.count_set (by simpa using hil)]
          have : listed.toList[i]'(by simpa using hil) = false := by simpa using e0
          simp only [this]
          simp
          have hpos : 0 < listed.toList.count false := List.count_pos_iff.2 (by rw [← e0]; simp)
          simp at hpos
          simp at hc
          omega
        · intro t ht
          have hne : o.dst ≠ some t := fun e => by
            simp only [isDst, List.any_eq_false] at ht
            exact ht o (List.mem_of_getElem? hl') (by simp [e])
          rw [put_other _ _ _ _ hne]
          exact hk t ht
        · intro j oj hj hoj
          by_cases e : i = j
          · subst e
            have : oj = o := Option.some.inj (hoj.symm.trans ho)
            subst this
            refine ⟨hv, fun e he hb => ?_⟩
            have h1 := hall e he hb
            by_cases q : i = e.on
            · rw [← q]; exact getD_set_same (by omega)
            · rw [getD_set_ne false q]; simpa using h1
          · rw [getD_set_ne false e] at hj
            obtain ⟨h1, h2⟩ := hp j oj hj hoj
            refine ⟨hrd j _ _ w' (fun t ht => ?_) (hm _ h1), fun e' he hb => ?_⟩
            · have hne : o.dst ≠ some t := fun hd' => by
                rcases own_spec hown hoj ht with h3 | h3 | ⟨e', he, hb, ok, hok, hkd⟩
                · exact distinct_spec hdist i j o oj t hl' (by simpa using hoj) e hd' h3
                · simp only [isDst, List.any_eq_false] at h3
                  exact h3 o (List.mem_of_getElem? hl') (by simp [hd'])
                · have h4 := h2 e' he hb
                  have h5 : i ≠ e'.on := fun q => by rw [← q, getD_both h0] at h4; cases h4
                  exact distinct_spec hdist i e'.on o ok t hl' (by simpa using hok) h5 hd' hkd
              exact (put_other _ _ _ _ hne).symm
            · by_cases q : i = e'.on
              · rw [← q]; exact getD_set_same (by omega)
              · rw [getD_set_ne false q]; exact h2 e' he hb
      unfold wpOp
      rw [ho]
      simp only
      unfold StepU at hstep
      split
      · rename_i hw
        rw [if_pos hw] at hstep
        refine .inl (Oper.wp_mono ?_ hstep)
        rintro a' w' ⟨v, rfl, hC', hv, hR⟩
        exact go v w' hC' hv (fun j h => hφ j _ w w' hC hR h)
      · rename_i hw
        rw [if_neg hw] at hstep
        exact go undef w hstep.1 hstep.2 (fun j h => h)

/-- THE LAW. -/
theorem region_tie2 {id : Nat} {l : List Oper} {w : World} (C : (Nat → Value) → World → Prop) (φ : Nat → (Nat → Value) → World → Prop) (R : (Nat → Value) → World → World → Prop) (rd : Nat → List Nat) (rk : Nat → Nat) (hm : P.follows .mixedOrders = true)
    (hB : (distinctB l && rankB l.toArray rk && ownB l.toArray rd && insideB l.toArray) = true) (hC : C (slots a0) w.drew)
    (hrd : ∀ i s s' w, (∀ t ∈ rd i, s t = s' t) → φ i s w → φ i s' w) (hφ : ∀ i s w w', C s w → R s w w' → φ i s w → φ i s w') (hst : StepsU P l.toArray Q C φ R a0 0 l)
    (hQ : ∀ (f : Oper → Value) w, C (slots (putAll f l a0)) w → (∀ i o, l[i]? = some o → φ i (slots (putAll f l a0)) w) → Q .normal (putAll f l a0) w) : (Code.region id l.toArray true).wp P Q a0 w := by
  simp only [Bool.and_eq_true] at hB
  refine wp_region_any hm (wpAny_tie2 (C := C) (φ := φ) (R := R) (a0 := a0) rd rk hB.1.1.1 hB.1.1.2 (inside_spec hB.2) hB.1.2 hrd hφ hst (fun f w hC h => hQ f w hC (fun i o ho => h i o (by simpa using ho))) _ _ _ w.drew (by simp) (by simp) hC rfl rfl (fun _ _ => rfl) ?_)
  intro i o hi
  simp at hi
  rcases Nat.lt_or_ge i l.length with h | h
  · simp [h] at hi
  · simp [Nat.not_lt.2 h] at hi

/-! What each kind of operation must do. -/
theorem uu_val {k : Nat} {o : Oper} {a : Act} {w : World} (v : Value) (hw : Region.wanted o (yielded ops a.tmps) = true) (hr : (execOp a.eval o).run P w = .ok (.value v) w) (hC : C (slots (a.put o.dst v)) w) (hv : φ k (slots (a.put o.dst v)) w) (hR : R (slots a) w w) : StepU P ops Q C φ R k o a w := by
  unfold StepU
  rw [if_pos hw]
  unfold Oper.wp
  rw [hr]
  exact ⟨v, rfl, hC, hv, hR⟩
theorem uu_skip {k : Nat} {o : Oper} {a : Act} {w : World} (hw : Region.wanted o (yielded ops a.tmps) = false) (hC : C (slots (a.put o.dst undef)) w) (hv : φ k (slots (a.put o.dst undef)) w) : StepU P ops Q C φ R k o a w := by
  unfold StepU
  rw [if_neg (by rw [hw]; exact Bool.false_ne_true)]
  exact ⟨hC, hv⟩
theorem uu_new {k : Nat} {o : Oper} {a : Act} {w w' : World} (v : Value) (hw : Region.wanted o (yielded ops a.tmps) = true) (hr : (execOp a.eval o).run P w = .ok (.value v) w') (hC : C (slots (a.put o.dst v)) w') (hv : φ k (slots (a.put o.dst v)) w') (hR : R (slots a) w w') : StepU P ops Q C φ R k o a w := by
  unfold StepU
  rw [if_pos hw]
  unfold Oper.wp
  rw [hr]
  exact ⟨v, rfl, hC, hv, hR⟩
theorem uu_v {k : Nat} {o : Oper} {a : Act} {w w' : World} (s : Sem Value) (v : Value) (hw : Region.wanted o (yielded ops a.tmps) = true) (ho : execOp a.eval o = (do let x ← s; pure (.value x))) (hr : s.run P w = .ok v w') (hC : C (slots (a.put o.dst v)) w') (hv : φ k (slots (a.put o.dst v)) w') (hR : R (slots a) w w') : StepU P ops Q C φ R k o a w :=
  uu_new v hw (by rw [ho]; simp only [Sem.run_bind, hr, Result.andThen_ok, Sem.run_pure]) hC hv hR
theorem uu_load {k : Nat} {o : Oper} {a : Act} {w : World} (T : TypeId) (x : Operand) (p v : Value) (ho : o.op = .load T x) (hw : Region.wanted o (yielded ops a.tmps) = true) (hp : a.eval x = p)
    (hr : (Instr.loadAt T p).run P w = .ok v w) (hC : C (slots (a.put o.dst v)) w) (hv : φ k (slots (a.put o.dst v)) w) (hR : R (slots a) w w) : StepU P ops Q C φ R k o a w :=
  uu_val v hw (by
    unfold execOp
    rw [ho]
    simp only [hp, Sem.run_bind, hr, Result.andThen_ok, Sem.run_pure]) hC hv hR
theorem uu_call {k : Nat} {o : Oper} {a : Act} {w : World} (f : FuncId) (args : Array Value) (hw : Region.wanted o (yielded ops a.tmps) = true) (he : (execOp a.eval o).run P w = .ok (.enter f args) w)
    (hc : Calls P f args w fun e w' => ∃ v, e = .returned v ∧ C (slots (a.put o.dst v)) w' ∧ φ k (slots (a.put o.dst v)) w' ∧ R (slots a) w w') : StepU P ops Q C φ R k o a w := by
  unfold StepU
  rw [if_pos hw]
  unfold Oper.wp
  rw [he]
  refine Calls.mono hc ?_
  rintro e w' ⟨v, rfl, h1, h2, h3⟩
  exact ⟨v, rfl, h1, h2, h3⟩
theorem uu_store {k : Nat} {o : Oper} {a : Act} {w w' : World} (hw : Region.wanted o (yielded ops a.tmps) = true) (hd : o.dst = none) (hr : (execOp a.eval o).run P w = .ok .skip w') (hC : C (slots a) w') (hv : φ k (slots a) w') (hR : R (slots a) w w') : StepU P ops Q C φ R k o a w := by
  unfold StepU
  rw [if_pos hw]
  unfold Oper.wp
  rw [hr]
  refine ⟨undef, by rw [hd], ?_, ?_, hR⟩
  · rw [hd]; exact hC
  · rw [hd]; exact hv
end
end Go.Proofs.Ytfgefifplmhopaa
namespace Go.Proofs.Ytfgefifplmhopaa
open Go.RowKit

/-- Where the two results lie (their addresses in the slots p and q): apart, and behind what was there. -/
structure AQ (p q H : Nat) (s : Nat → Value) (wx : World) : Prop where
  ap : ∀ D, s p = .pointer (some ⟨D, 0, none⟩) → H ≤ D ∧ D < wx.heap.size
  aq : ∀ D, s q = .pointer (some ⟨D, 0, none⟩) → H ≤ D ∧ D < wx.heap.size
  ne : ∀ D E, s p = .pointer (some ⟨D, 0, none⟩) → s q = .pointer (some ⟨E, 0, none⟩) → D ≠ E
theorem AQ.start {p q H : Nat} {s : Nat → Value} {wx : World} (h7 : s p = undef) (h8 : s q = undef) : AQ p q H s wx :=
  ⟨fun D hD => (by rw [h7] at hD; unfold undef at hD; cases hD), fun D hD => (by rw [h8] at hD; unfold undef at hD; cases hD), fun D E hD => (by rw [h7] at hD; unfold undef at hD; cases hD)⟩
theorem AQ.put {p q H : Nat} {s s' : Nat → Value} {wx w' : World} (h : AQ p q H s wx) (e7 : s' p = s p) (e8 : s' q = s q) (hl : wx.heap.size ≤ w'.heap.size) : AQ p q H s' w' :=
  ⟨fun D hD => ⟨(h.ap D (e7 ▸ hD)).1, Nat.lt_of_lt_of_le (h.ap D (e7 ▸ hD)).2 hl⟩, fun D hD => ⟨(h.aq D (e8 ▸ hD)).1, Nat.lt_of_lt_of_le (h.aq D (e8 ▸ hD)).2 hl⟩, fun D E h1 h2 => h.ne D E (e7 ▸ h1) (e8 ▸ h2)⟩
theorem AQ.newp {p q H : Nat} {s s' : Nat → Value} {wx w' : World} (h : AQ p q H s wx) (e7 : s' p = .pointer (some ⟨wx.heap.size, 0, none⟩)) (e8 : s' q = s q) (hH : H ≤ wx.heap.size) (hl : wx.heap.size < w'.heap.size) : AQ p q H s' w' :=
  ⟨fun D hD => by rw [e7] at hD; cases hD; exact ⟨hH, hl⟩, fun D hD => ⟨(h.aq D (e8 ▸ hD)).1, Nat.lt_trans (h.aq D (e8 ▸ hD)).2 hl⟩, fun D E h1 h2 => by rw [e7] at h1; cases h1; have := (h.aq E (e8 ▸ h2)).2; omega⟩
theorem AQ.newq {p q H : Nat} {s s' : Nat → Value} {wx w' : World} (h : AQ p q H s wx) (e8 : s' q = .pointer (some ⟨wx.heap.size, 0, none⟩)) (e7 : s' p = s p) (hH : H ≤ wx.heap.size) (hl : wx.heap.size < w'.heap.size) : AQ p q H s' w' :=
  ⟨fun D hD => ⟨(h.ap D (e7 ▸ hD)).1, Nat.lt_trans (h.ap D (e7 ▸ hD)).2 hl⟩, fun D hD => by rw [e8] at hD; cases hD; exact ⟨hH, hl⟩, fun D E h1 h2 => by rw [e8] at h2; cases h2; have := (h.ap D (e7 ▸ h1)).2; omega⟩
/-- What a step does to what was there: nothing, or one of the results is laid. -/
def RM2 (p q : Nat) (ca cb : Array Value) (s : Nat → Value) (wa wb : World) : Prop := (wa.heap.size ≤ wb.heap.size ∧ ∀ (k : Nat), k < wa.heap.size → wb.heap[k]? = wa.heap[k]?) ∨ ∃ (D : Nat) (cs : Array Value), (s p = .pointer (some ⟨D, 0, none⟩) ∧ cs = ca ∨ s q = .pointer (some ⟨D, 0, none⟩) ∧ cs = cb) ∧ wb = wa.setRow D cs
theorem RM2.of {p q : Nat} {ca cb : Array Value} {s : Nat → Value} {wa wb : World} (h : Below wa.heap.size wa wb) : RM2 p q ca cb s wa wb := .inl ⟨h.size, fun k hk => h.block k hk⟩
theorem RM2.same {p q : Nat} {ca cb : Array Value} {s : Nat → Value} (wa : World) : RM2 p q ca cb s wa wa := .inl ⟨Nat.le_refl _, fun _ _ => rfl⟩
theorem RM2.shape {p q D n : Nat} {T : TypeId} {ca cb : Array Value} {s : Nat → Value} {wa wb : World} (hR : RM2 p q ca cb s wa wb) (ha : ca.size = n) (hb : cb.size = n) (h : ∃ cs : Array Value, wa.heap[D]? = some (.cells cs T (0, 0)) ∧ cs.size = n) : ∃ cs : Array Value, wb.heap[D]? = some (.cells cs T (0, 0)) ∧ cs.size = n := by
  obtain ⟨cs, e, hs⟩ := h
  rcases hR with ⟨-, h⟩ | ⟨E, c1, h1, rfl⟩
  · exact ⟨cs, (h D (Array.getElem?_eq_some_iff.1 e).1).trans e, hs⟩
  · by_cases q : D = E
    · subst q
      exact ⟨c1, setRow_heap _ _ _ _ _ _ e, by rcases h1 with ⟨-, rfl⟩ | ⟨-, rfl⟩ <;> assumption⟩
    · exact ⟨cs, (setRow_other _ _ _ _ q).trans e, hs⟩
theorem RM2.keepp {p q D H : Nat} {T : TypeId} {ca cb : Array Value} {s : Nat → Value} {wa wb : World} (hA : AQ p q H s wa) (hR : RM2 p q ca cb s wa wb) (hs : s p = .pointer (some ⟨D, 0, none⟩)) (e : wa.heap[D]? = some (.cells ca T (0, 0))) : wb.heap[D]? = some (.cells ca T (0, 0)) := by
  rcases hR with ⟨-, h⟩ | ⟨E, c1, h1, rfl⟩
  · exact (h D (Array.getElem?_eq_some_iff.1 e).1).trans e
  · rcases h1 with ⟨h1, rfl⟩ | ⟨h1, rfl⟩
    · rw [hs] at h1; cases h1; exact setRow_heap _ _ _ _ _ _ e
    · exact (setRow_other _ _ _ _ (hA.ne D E hs h1)).trans e
theorem RM2.keepq {p q D H : Nat} {T : TypeId} {ca cb : Array Value} {s : Nat → Value} {wa wb : World} (hA : AQ p q H s wa) (hR : RM2 p q ca cb s wa wb) (hs : s q = .pointer (some ⟨D, 0, none⟩)) (e : wa.heap[D]? = some (.cells cb T (0, 0))) : wb.heap[D]? = some (.cells cb T (0, 0)) := by
  rcases hR with ⟨-, h⟩ | ⟨E, c1, h1, rfl⟩
  · exact (h D (Array.getElem?_eq_some_iff.1 e).1).trans e
  · rcases h1 with ⟨h1, rfl⟩ | ⟨h1, rfl⟩
    · exact (setRow_other _ _ _ _ (Ne.symm (hA.ne E D h1 hs))).trans e
    · rw [hs] at h1; cases h1; exact setRow_heap _ _ _ _ _ _ e
end Go.Proofs.Ytfgefifplmhopaa
namespace Go.Proofs.Ytfgefifplmhopaa
open Go.RowKit
/-- The cells of sixteen words. -/
def tabF (q : Nat → Nat) (i : Nat) : Int := ((pN (q (i / 4)) (i % 4) : Nat) : Int)
theorem info64 : (Try.prog.info? 68).map (·.size) = some 64 := by kernel_rfl
theorem tab_at {w : World} {V : Nat} {q : Nat → Nat} (h : w.heap[V]? = some (.cells (ar .u64 64 (tabF q)) 68 (0, 0))) (k j : Nat) (hk : k < 16) (hj : j < 4) : w.cell? ⟨V, k * 4 + j, none⟩ = some (.int .u64 ((pN (q k) j : Nat) : Int)) := by
  refine (cell_of_row _ _ (k * 4 + j) _ _ _ h).trans ((ar_at _ _ _ _ (by omega)).trans ?_)
  unfold tabF
  rw [show (k * 4 + j) / 4 = k by omega, show (k * 4 + j) % 4 = j by omega]
theorem ld_tab {w : World} {V : Nat} {q : Nat → Nat} (h : w.heap[V]? = some (.cells (ar .u64 64 (tabF q)) 68 (0, 0))) (k : Nat) (hk : k < 16) : (Instr.loadAt 24 (.pointer (some ⟨V, k * 4, none⟩))).run Try.prog w = .ok (.agg (pw (q k))) w := by
  rw [pw_ar]
  simp only [Instr.loadAt, Instr.sureAddr, Sem.run_bind, Sem.run_pure, Result.andThen_ok, run_loadVar_part w V (k * 4) 4 24 .u64 (fun j => ((pN (q k) j : Nat) : Int)) _ (fun j hj => tab_at h k j hk hj) Try.underlying24 rfl infoW4]
theorem ix_tab (V k : Nat) (hk : k < 16) (w : World) : (Instr.indexAt 68 (.pointer (some ⟨V, 0, none⟩)) (.int .i64 (k : Nat))).run Try.prog w = .ok (.pointer (some ⟨V, k * 4, none⟩)) w := by
  have h0 : (0 : Int) ≤ k := by omega
  have h1 : (k : Int) < 16 := by omega
  go_simp
theorem tab_upd (q : Nat → Nat) (k y : Nat) : ar .u64 64 (updI (updI (updI (updI (tabF q) (k * 4) ((pN y 0 : Nat) : Int)) (k * 4 + 1) ((pN y 1 : Nat) : Int)) (k * 4 + 2) ((pN y 2 : Nat) : Int)) (k * 4 + 3) ((pN y 3 : Nat) : Int)) = ar .u64 64 (tabF (updN q k y)) := ar_congr fun i hi => by
  unfold updI tabF updN
  by_cases h3 : i = k * 4 + 3
  · rw [if_pos h3, if_pos (by omega), show i % 4 = 3 by omega]
  · rw [if_neg h3]
    by_cases h2 : i = k * 4 + 2
    · rw [if_pos h2, if_pos (by omega), show i % 4 = 2 by omega]
    · rw [if_neg h2]
      by_cases h1 : i = k * 4 + 1
      · rw [if_pos h1, if_pos (by omega), show i % 4 = 1 by omega]
      · rw [if_neg h1]
        by_cases h0 : i = k * 4
        · rw [if_pos h0, if_pos (by omega), show i % 4 = 0 by omega]
        · rw [if_neg h0, if_neg (by omega)]
theorem pw_list (y : Nat) : (pw y).toList = [.int .u64 ((pN y 0 : Nat) : Int), .int .u64 ((pN y 1 : Nat) : Int), .int .u64 ((pN y 2 : Nat) : Int), .int .u64 ((pN y 3 : Nat) : Int)] := by rw [pw4]
theorem tab_row {w : World} {V : Nat} {q : Nat → Nat} (h : w.heap[V]? = some (.cells (ar .u64 64 (tabF q)) 68 (0, 0))) (k y : Nat) (hk : k < 16) : (w.setCells V (k * 4) (pw y).toList).heap[V]? = some (.cells (ar .u64 64 (tabF (updN q k y))) 68 (0, 0)) := by
  rw [pw_list]
  simp only [World.setCells]
  refine (heap_setCell_same _ _ _ _ _ _ (heap_setCell_same _ _ _ _ _ _ (heap_setCell_same _ _ _ _ _ _ (heap_setCell_same _ _ _ _ _ _ h)))).trans ?_
  rw [ar_set _ _ _ _ _ (by omega), ar_set _ _ _ _ _ (by omega), ar_set _ _ _ _ _ (by omega), ar_set _ _ _ _ _ (by omega), tab_upd]
theorem tab_other {w : World} {V : Nat} (o y k : Nat) (hk : k ≠ V) : (w.setCells V o (pw y).toList).heap[k]? = w.heap[k]? := by
  rw [pw_list]
  simp only [World.setCells]
  rw [heap_setCell_other _ _ _ _ hk, heap_setCell_other _ _ _ _ hk, heap_setCell_other _ _ _ _ hk, heap_setCell_other _ _ _ _ hk]
theorem tab_below {b : Nat} {w0 w : World} {V : Nat} (o y : Nat) (hb : Below b w0 w) (hV : b ≤ V) : Below b w0 (w.setCells V o (pw y).toList) := by
  rw [pw_list]
  simp only [World.setCells]
  exact (((hb.setCell (by exact hV) _).setCell (by exact hV) _).setCell (by exact hV) _).setCell (by exact hV) _
theorem tab_there {w : World} {V : Nat} {q : Nat → Nat} (h : w.heap[V]? = some (.cells (ar .u64 64 (tabF q)) 68 (0, 0))) (k : Nat) (hk : k < 16) (y : Nat) : w.there V (k * 4) (pw y).size := by
  intro j hj
  rw [pw_size] at hj
  exact ⟨by rw [tab_at h k j hk hj]; rfl, frozen_of_row _ _ _ _ _ h⟩
end Go.Proofs.Ytfgefifplmhopaa
namespace Go.Proofs.Ytfgefifplmhopaa
open Go.RowKit
/-- The powers of a, scaled. -/
def pwq (m a j : Nat) : Nat := a ^ j * 115792089237316195423570985008687907853269984665640564039457584007913129639936 % m
theorem pwq_next {m : Nat} (ho : m % 2 = 1) (h1 : 1 < m) (a j : Nat) : mnt m (pwq m a j) (a * 115792089237316195423570985008687907853269984665640564039457584007913129639936 % m) = pwq m a (j + 1) := by
  unfold pwq
  rw [mnt_both ho h1, Nat.pow_succ]
/-- The table, so far. -/
def tabQ (m a k j : Nat) : Nat := if j ≤ k then pwq m a j else 0
theorem tabQ_next (m a k : Nat) : updN (tabQ m a k) (k + 1) (pwq m a (k + 1)) = tabQ m a (k + 1) := by
  funext j
  unfold updN tabQ
  by_cases h : j = k + 1
  · rw [if_pos h, if_pos (by omega), h]
  · rw [if_neg h]
    by_cases h2 : j ≤ k
    · rw [if_pos h2, if_pos (by omega)]
    · rw [if_neg h2, if_neg (by omega)]
/-- The worlds of powers. -/
structure CP (w : World) (F m a : Nat) (wx : World) : Prop where
  old : Below w.heap.size w wx
  fld : FldAt wx F m
  hF : F < w.heap.size
  r0 : wx.heap[w.heap.size]? = some (.cells (pw a) 24 (0, 0))
  r1 : wx.heap[w.heap.size + 1]? = some (.cells (#[.int .u64 0, .int .u64 0, .int .u64 0, .int .u64 0, .int .u64 0, .int .u64 0, .int .u64 0, .int .u64 0, .int .u64 0, .int .u64 0, .int .u64 0, .int .u64 0, .int .u64 0, .int .u64 0, .int .u64 0, .int .u64 0, .int .u64 0, .int .u64 0, .int .u64 0, .int .u64 0, .int .u64 0, .int .u64 0, .int .u64 0, .int .u64 0, .int .u64 0, .int .u64 0, .int .u64 0, .int .u64 0, .int .u64 0, .int .u64 0, .int .u64 0, .int .u64 0, .int .u64 0, .int .u64 0, .int .u64 0, .int .u64 0, .int .u64 0, .int .u64 0, .int .u64 0, .int .u64 0, .int .u64 0, .int .u64 0, .int .u64 0, .int .u64 0, .int .u64 0, .int .u64 0, .int .u64 0, .int .u64 0, .int .u64 0, .int .u64 0, .int .u64 0, .int .u64 0, .int .u64 0, .int .u64 0, .int .u64 0, .int .u64 0, .int .u64 0, .int .u64 0, .int .u64 0, .int .u64 0, .int .u64 0, .int .u64 0, .int .u64 0, .int .u64 0]) 68 (0, 0))
theorem CP.high {w wx : World} {F m a : Nat} (c : CP w F m a wx) : w.heap.size + 2 ≤ wx.heap.size := (Array.getElem?_eq_some_iff.1 c.r1).1
theorem CP.below {w wx w' : World} {F m a : Nat} (c : CP w F m a wx) (hb : Below wx.heap.size wx w') : CP w F m a w' :=
  ⟨c.old.trans (hb.mono c.old.size), c.fld.below hb, c.hF, (hb.block _ (Array.getElem?_eq_some_iff.1 c.r0).1).trans c.r0, (hb.block _ (Array.getElem?_eq_some_iff.1 c.r1).1).trans c.r1⟩
theorem CP.drew {w wx : World} {F m a : Nat} (c : CP w F m a wx) : CP w F m a wx.drew := c.below (Below.drew (Below.refl _ _))
theorem CP.rowed {w wx : World} {F m a g : Nat} {cs : Array Value} (c : CP w F m a wx) (hg : w.heap.size + 2 ≤ g) : CP w F m a (wx.setRow g cs) := by
  have h := c.hF
  exact ⟨below_setRow c.old (by omega) _, fld_row c.fld (by omega), c.hF, (setRow_other _ _ _ _ (by omega)).trans c.r0, (setRow_other _ _ _ _ (by omega)).trans c.r1⟩
theorem CP.start {w : World} {F m : Nat} (h : FldAt w F m) (a : Nat) : CP w F m a ((w.alloc (.cells (pw a) 24)).alloc (.cells (#[.int .u64 0, .int .u64 0, .int .u64 0, .int .u64 0, .int .u64 0, .int .u64 0, .int .u64 0, .int .u64 0, .int .u64 0, .int .u64 0, .int .u64 0, .int .u64 0, .int .u64 0, .int .u64 0, .int .u64 0, .int .u64 0, .int .u64 0, .int .u64 0, .int .u64 0, .int .u64 0, .int .u64 0, .int .u64 0, .int .u64 0, .int .u64 0, .int .u64 0, .int .u64 0, .int .u64 0, .int .u64 0, .int .u64 0, .int .u64 0, .int .u64 0, .int .u64 0, .int .u64 0, .int .u64 0, .int .u64 0, .int .u64 0, .int .u64 0, .int .u64 0, .int .u64 0, .int .u64 0, .int .u64 0, .int .u64 0, .int .u64 0, .int .u64 0, .int .u64 0, .int .u64 0, .int .u64 0, .int .u64 0, .int .u64 0, .int .u64 0, .int .u64 0, .int .u64 0, .int .u64 0, .int .u64 0, .int .u64 0, .int .u64 0, .int .u64 0, .int .u64 0, .int .u64 0, .int .u64 0, .int .u64 0, .int .u64 0, .int .u64 0, .int .u64 0]) 68)) := by
  have hb : Below w.heap.size w (w.alloc (.cells (pw a) 24)) := (Below.refl _ _).alloc (Nat.le_refl _) _
  have hb2 : Below (w.heap.size + 1) (w.alloc (.cells (pw a) 24)) ((w.alloc (.cells (pw a) 24)).alloc (.cells (#[.int .u64 0, .int .u64 0, .int .u64 0, .int .u64 0, .int .u64 0, .int .u64 0, .int .u64 0, .int .u64 0, .int .u64 0, .int .u64 0, .int .u64 0, .int .u64 0, .int .u64 0, .int .u64 0, .int .u64 0, .int .u64 0, .int .u64 0, .int .u64 0, .int .u64 0, .int .u64 0, .int .u64 0, .int .u64 0, .int .u64 0, .int .u64 0, .int .u64 0, .int .u64 0, .int .u64 0, .int .u64 0, .int .u64 0, .int .u64 0, .int .u64 0, .int .u64 0, .int .u64 0, .int .u64 0, .int .u64 0, .int .u64 0, .int .u64 0, .int .u64 0, .int .u64 0, .int .u64 0, .int .u64 0, .int .u64 0, .int .u64 0, .int .u64 0, .int .u64 0, .int .u64 0, .int .u64 0, .int .u64 0, .int .u64 0, .int .u64 0, .int .u64 0, .int .u64 0, .int .u64 0, .int .u64 0, .int .u64 0, .int .u64 0, .int .u64 0, .int .u64 0, .int .u64 0, .int .u64 0, .int .u64 0, .int .u64 0, .int .u64 0, .int .u64 0]) 68)) := (Below.refl _ _).alloc (by simp) _
  exact ⟨hb.trans (hb2.mono (by omega)), (h.below hb).below (by rw [World.size_alloc]; exact hb2), h.less, (hb2.block _ (by omega)).trans (heap_alloc_new _ _), by have := heap_alloc_new (w.alloc (.cells (pw a) 24)) (.cells (#[.int .u64 0, .int .u64 0, .int .u64 0, .int .u64 0, .int .u64 0, .int .u64 0, .int .u64 0, .int .u64 0, .int .u64 0, .int .u64 0, .int .u64 0, .int .u64 0, .int .u64 0, .int .u64 0, .int .u64 0, .int .u64 0, .int .u64 0, .int .u64 0, .int .u64 0, .int .u64 0, .int .u64 0, .int .u64 0, .int .u64 0, .int .u64 0, .int .u64 0, .int .u64 0, .int .u64 0, .int .u64 0, .int .u64 0, .int .u64 0, .int .u64 0, .int .u64 0, .int .u64 0, .int .u64 0, .int .u64 0, .int .u64 0, .int .u64 0, .int .u64 0, .int .u64 0, .int .u64 0, .int .u64 0, .int .u64 0, .int .u64 0, .int .u64 0, .int .u64 0, .int .u64 0, .int .u64 0, .int .u64 0, .int .u64 0, .int .u64 0, .int .u64 0, .int .u64 0, .int .u64 0, .int .u64 0, .int .u64 0, .int .u64 0, .int .u64 0, .int .u64 0, .int .u64 0, .int .u64 0, .int .u64 0, .int .u64 0, .int .u64 0, .int .u64 0]) 68); rwa [World.size_alloc] at this⟩
structure CK (w : World) (F m a g h e f : Nat) (wx : World) : Prop where
  c : CP w F m a wx
  rg : wx.heap[g]? = some (.cells (pw e) 24 (0, 0))
  rh : wx.heap[h]? = some (.cells (pw f) 24 (0, 0))
theorem CK.below {w wx w' : World} {F m a g h e f : Nat} (c : CK w F m a g h e f wx) (hb : Below wx.heap.size wx w') : CK w F m a g h e f w' :=
  ⟨c.c.below hb, (hb.block _ (Array.getElem?_eq_some_iff.1 c.rg).1).trans c.rg, (hb.block _ (Array.getElem?_eq_some_iff.1 c.rh).1).trans c.rh⟩
/-- .. and the table. -/
structure CTb (w : World) (F m a g h e f V : Nat) (q : Nat → Nat) (wx : World) : Prop where
  k : CK w F m a g h e f wx
  rV : wx.heap[V]? = some (.cells (ar .u64 64 (tabF q)) 68 (0, 0))
  hV : w.heap.size + 2 ≤ V ∧ g < V ∧ h < V
theorem CTb.below {w wx w' : World} {F m a g h e f V : Nat} {q : Nat → Nat} (c : CTb w F m a g h e f V q wx) (hb : Below wx.heap.size wx w') : CTb w F m a g h e f V q w' :=
  ⟨c.k.below hb, (hb.block _ (Array.getElem?_eq_some_iff.1 c.rV).1).trans c.rV, c.hV⟩
theorem CTb.drew {w wx : World} {F m a g h e f V : Nat} {q : Nat → Nat} (c : CTb w F m a g h e f V q wx) : CTb w F m a g h e f V q wx.drew := c.below (Below.drew (Below.refl _ _))
theorem CTb.put {w wx : World} {F m a g h e f V : Nat} {q : Nat → Nat} (c : CTb w F m a g h e f V q wx) (k y : Nat) (hk : k < 16) : CTb w F m a g h e f V (updN q k y) (wx.setCells V (k * 4) (pw y).toList) := by
  have hV := c.hV
  have hF := c.k.c.hF
  exact ⟨⟨⟨tab_below _ _ c.k.c.old (by omega), ⟨(tab_other _ _ _ (by omega)).trans c.k.c.fld.row, c.k.c.fld.odd, c.k.c.fld.big, c.k.c.fld.lt⟩, hF, (tab_other _ _ _ (by omega)).trans c.k.c.r0, (tab_other _ _ _ (by omega)).trans c.k.c.r1⟩, (tab_other _ _ _ (by omega)).trans c.k.rg, (tab_other _ _ _ (by omega)).trans c.k.rh⟩, tab_row c.rV k y hk, hV⟩
theorem CTb.start {w wx : World} {F m a g h e f : Nat} (c : CK w F m a g h e f wx) (q : Nat → Nat) : CTb w F m a g h e f wx.heap.size q ((wx.alloc (.cells (#[.int .u64 0, .int .u64 0, .int .u64 0, .int .u64 0, .int .u64 0, .int .u64 0, .int .u64 0, .int .u64 0, .int .u64 0, .int .u64 0, .int .u64 0, .int .u64 0, .int .u64 0, .int .u64 0, .int .u64 0, .int .u64 0, .int .u64 0, .int .u64 0, .int .u64 0, .int .u64 0, .int .u64 0, .int .u64 0, .int .u64 0, .int .u64 0, .int .u64 0, .int .u64 0, .int .u64 0, .int .u64 0, .int .u64 0, .int .u64 0, .int .u64 0, .int .u64 0, .int .u64 0, .int .u64 0, .int .u64 0, .int .u64 0, .int .u64 0, .int .u64 0, .int .u64 0, .int .u64 0, .int .u64 0, .int .u64 0, .int .u64 0, .int .u64 0, .int .u64 0, .int .u64 0, .int .u64 0, .int .u64 0, .int .u64 0, .int .u64 0, .int .u64 0, .int .u64 0, .int .u64 0, .int .u64 0, .int .u64 0, .int .u64 0, .int .u64 0, .int .u64 0, .int .u64 0, .int .u64 0, .int .u64 0, .int .u64 0, .int .u64 0, .int .u64 0]) 68)).setRow wx.heap.size (ar .u64 64 (tabF q))) := by
  have hb : Below wx.heap.size wx (wx.alloc (.cells (#[.int .u64 0, .int .u64 0, .int .u64 0, .int .u64 0, .int .u64 0, .int .u64 0, .int .u64 0, .int .u64 0, .int .u64 0, .int .u64 0, .int .u64 0, .int .u64 0, .int .u64 0, .int .u64 0, .int .u64 0, .int .u64 0, .int .u64 0, .int .u64 0, .int .u64 0, .int .u64 0, .int .u64 0, .int .u64 0, .int .u64 0, .int .u64 0, .int .u64 0, .int .u64 0, .int .u64 0, .int .u64 0, .int .u64 0, .int .u64 0, .int .u64 0, .int .u64 0, .int .u64 0, .int .u64 0, .int .u64 0, .int .u64 0, .int .u64 0, .int .u64 0, .int .u64 0, .int .u64 0, .int .u64 0, .int .u64 0, .int .u64 0, .int .u64 0, .int .u64 0, .int .u64 0, .int .u64 0, .int .u64 0, .int .u64 0, .int .u64 0, .int .u64 0, .int .u64 0, .int .u64 0, .int .u64 0, .int .u64 0, .int .u64 0, .int .u64 0, .int .u64 0, .int .u64 0, .int .u64 0, .int .u64 0, .int .u64 0, .int .u64 0, .int .u64 0]) 68)) := (Below.refl _ _).alloc (Nat.le_refl _) _
  have c' := c.below hb
  have lg := (Array.getElem?_eq_some_iff.1 c.rg).1
  have lh := (Array.getElem?_eq_some_iff.1 c.rh).1
  have hi := c.c.high
  exact ⟨⟨c'.c.rowed hi, (setRow_other _ _ _ _ (by omega)).trans c'.rg, (setRow_other _ _ _ _ (by omega)).trans c'.rh⟩, setRow_heap _ _ _ _ _ _ (heap_alloc_new _ _), ⟨hi, lg, lh⟩⟩
theorem tabQ_0 (m a : Nat) : (fun j => if j = 0 then 1 * 115792089237316195423570985008687907853269984665640564039457584007913129639936 % m else 0) = tabQ m a 0 := by
  funext j
  unfold tabQ pwq
  by_cases h : j = 0
  · rw [if_pos h, if_pos (by omega), h, Nat.pow_zero]
  · rw [if_neg h, if_neg (by omega)]
theorem pwq_lt {m : Nat} (h : 1 < m) (a j : Nat) : pwq m a j < m := Nat.mod_lt _ (by omega)
set_option maxRecDepth 100000 in
set_option maxHeartbeats 4000000 in
-- WHAT powers COMES TO.
theorem powers_any (F m ao : Nat) (ha : ao < 115792089237316195423570985008687907853269984665640564039457584007913129639936) (w : World) (hF : FldAt w F m) : Calls Try.prog 56 #[.pointer (some ⟨F, 0, none⟩), .agg (pw ao)] w fun e w' => e = .returned (.agg (ar .u64 64 (tabF (tabQ m ao 15)))) ∧ Below w.heap.size w w' := by
  have H0 := Lib.hid (CP.start hF ao)
  have HO := Lib.hid (And.intro hF.odd (And.intro hF.big hF.lt))
  have HS1 := Lib.hid (fun wx (c : CP w F m ao wx) => scaled_any F m 1 (by omega) wx c.fld)
  have HS2 := Lib.hid (fun wx (c : CP w F m ao wx) => scaled_any F m ao ha wx c.fld)
  obtain ⟨eo, he⟩ : ∃ eo, 1 * 115792089237316195423570985008687907853269984665640564039457584007913129639936 % m = eo := ⟨_, rfl⟩
  obtain ⟨fo, hf⟩ : ∃ fo, ao * 115792089237316195423570985008687907853269984665640564039457584007913129639936 % m = fo := ⟨_, rfl⟩
  rw [he] at HS1
  rw [hf] at HS2
  have HE := Lib.hid (And.intro he hf)
  clear ha hF he hf
  go_enter Try.func56, Try.ntmps56
  go_wp2_with fail
  refine region_tie2 (fun s wx => CP w F m ao wx ∧ AQ 5 6 (w.heap.size + 2) s wx) (fun i s wx => match i with | 0 => s 9 = (.pointer (some ⟨F, 0, none⟩)) | 1 => s 10 = (.agg (pw 1)) | 2 => s 11 = (.agg (pw eo)) | 3 => s 12 = (.pointer (some ⟨F, 0, none⟩)) | 4 => s 13 = (.agg (pw ao)) | 5 => s 14 = (.agg (pw fo)) | 6 => ∃ D, s 5 = .pointer (some ⟨D, 0, none⟩) ∧ ∃ cs : Array Value, wx.heap[D]? = some (.cells cs 24 (0, 0)) ∧ cs.size = 4 | 7 => ∃ D, s 6 = .pointer (some ⟨D, 0, none⟩) ∧ ∃ cs : Array Value, wx.heap[D]? = some (.cells cs 24 (0, 0)) ∧ cs.size = 4 | 8 => ∃ D, s 5 = .pointer (some ⟨D, 0, none⟩) ∧ wx.heap[D]? = some (.cells (pw eo) 24 (0, 0)) | 9 => ∃ D, s 6 = .pointer (some ⟨D, 0, none⟩) ∧ wx.heap[D]? = some (.cells (pw fo) 24 (0, 0)) | _ => True) (RM2 5 6 (pw eo) (pw fo)) (fun i => match i with | 0 => [9] | 1 => [10] | 2 => [11] | 3 => [12] | 4 => [13] | 5 => [14] | 6 => [5] | 7 => [6] | 8 => [5] | 9 => [6] | _ => []) (fun i => i) (by kernel_rfl) (by kernel_rfl) ⟨H0.out.drew, AQ.start (by kernel_rfl) (by kernel_rfl)⟩ ?_ ?_ ?_ ?_
  · intro i s s' wx he hp
    match i, he, hp with
    | 0, he, hp => exact (he 9 (by simp)).symm.trans hp
    | 1, he, hp => exact (he 10 (by simp)).symm.trans hp
    | 2, he, hp => exact (he 11 (by simp)).symm.trans hp
    | 3, he, hp => exact (he 12 (by simp)).symm.trans hp
    | 4, he, hp => exact (he 13 (by simp)).symm.trans hp
    | 5, he, hp => exact (he 14 (by simp)).symm.trans hp
    | 6, he, hp => obtain ⟨D, h1, h2⟩ := hp; exact ⟨D, (he 5 (by simp)).symm.trans h1, h2⟩
    | 7, he, hp => obtain ⟨D, h1, h2⟩ := hp; exact ⟨D, (he 6 (by simp)).symm.trans h1, h2⟩
    | 8, he, hp => obtain ⟨D, h1, h2⟩ := hp; exact ⟨D, (he 5 (by simp)).symm.trans h1, h2⟩
    | 9, he, hp => obtain ⟨D, h1, h2⟩ := hp; exact ⟨D, (he 6 (by simp)).symm.trans h1, h2⟩
    | _ + 10, _, _ => trivial
  · intro i s wa wb hC hR hp
    match i, hp with
    | 0, hp => exact hp
    | 1, hp => exact hp
    | 2, hp => exact hp
    | 3, hp => exact hp
    | 4, hp => exact hp
    | 5, hp => exact hp
    | 6, hp => obtain ⟨D, h1, h2⟩ := hp; exact ⟨D, h1, hR.shape (pw_size _) (pw_size _) h2⟩
    | 7, hp => obtain ⟨D, h1, h2⟩ := hp; exact ⟨D, h1, hR.shape (pw_size _) (pw_size _) h2⟩
    | 8, hp => obtain ⟨D, h1, h2⟩ := hp; exact ⟨D, h1, RM2.keepp hC.2 hR h1 h2⟩
    | 9, hp => obtain ⟨D, h1, h2⟩ := hp; exact ⟨D, h1, RM2.keepq hC.2 hR h1 h2⟩
    | _ + 10, _ => trivial
  · refine ⟨?_, ?_, ?_, ?_, ?_, ?_, ?_, ?_, ?_, ?_, trivial⟩
    · intro a wx hC hsz hK
      have h0 : a.tmps.getD 0 undef = (.pointer (some ⟨F, 0, none⟩)) := hK.1 0 (by kernel_rfl)
      exact uu_val ((.pointer (some ⟨F, 0, none⟩))) (by kernel_rfl) (by rw [← h0]; kernel_rfl) ⟨hC.1, hC.2.put (slots_other _ 9 5 _ (by omega)) (slots_other _ 9 6 _ (by omega)) (Nat.le_refl _)⟩ (slots_put _ _ _ (by rw [hsz]; exact of_decide_eq_true (by kernel_rfl))) (RM2.same _)
    · intro a wx hC hsz hK
      refine uu_call 30 #[(.int .u64 (1 : Nat))] (by kernel_rfl) (by kernel_rfl) ?_
      exact (of_wv 1 (by omega) wx).mono fun e w' hh => ⟨_, hh.1, ⟨hC.1.below hh.2, hC.2.put (slots_other _ 10 5 _ (by omega)) (slots_other _ 10 6 _ (by omega)) hh.2.size⟩, (slots_put _ _ _ (by rw [hsz]; exact of_decide_eq_true (by kernel_rfl))), RM2.of hh.2⟩
    · intro a wx hC hsz hK
      have h0 : a.tmps.getD 9 undef = (.pointer (some ⟨F, 0, none⟩)) := hK.2 ⟨0, .data⟩ (by simp) rfl _ rfl
      have h1 : a.tmps.getD 10 undef = (.agg (pw 1)) := hK.2 ⟨1, .data⟩ (by simp) rfl _ rfl
      refine uu_call 41 #[a.tmps.getD 9 undef, a.tmps.getD 10 undef] (by kernel_rfl) (by kernel_rfl) ?_
      rw [h0, h1]
      exact (HS1.out wx hC.1).mono fun e w' hh => ⟨_, hh.1, ⟨hC.1.below hh.2, hC.2.put (slots_other _ 11 5 _ (by omega)) (slots_other _ 11 6 _ (by omega)) hh.2.size⟩, (slots_put _ _ _ (by rw [hsz]; exact of_decide_eq_true (by kernel_rfl))), RM2.of hh.2⟩
    · intro a wx hC hsz hK
      have h0 : a.tmps.getD 0 undef = (.pointer (some ⟨F, 0, none⟩)) := hK.1 0 (by kernel_rfl)
      exact uu_val ((.pointer (some ⟨F, 0, none⟩))) (by kernel_rfl) (by rw [← h0]; kernel_rfl) ⟨hC.1, hC.2.put (slots_other _ 12 5 _ (by omega)) (slots_other _ 12 6 _ (by omega)) (Nat.le_refl _)⟩ (slots_put _ _ _ (by rw [hsz]; exact of_decide_eq_true (by kernel_rfl))) (RM2.same _)
    · intro a wx hC hsz hK
      have h0 : a.tmps.getD 3 undef = (.pointer (some ⟨w.heap.size, 0, none⟩)) := hK.1 3 (by kernel_rfl)
      exact uu_load 24 (.tmp 3) ((.pointer (some ⟨w.heap.size, 0, none⟩))) ((.agg (pw ao))) rfl (by kernel_rfl) h0 (ld_pw hC.1.r0) ⟨hC.1, hC.2.put (slots_other _ 13 5 _ (by omega)) (slots_other _ 13 6 _ (by omega)) (Nat.le_refl _)⟩ (slots_put _ _ _ (by rw [hsz]; exact of_decide_eq_true (by kernel_rfl))) (RM2.same _)
    · intro a wx hC hsz hK
      have h0 : a.tmps.getD 12 undef = (.pointer (some ⟨F, 0, none⟩)) := hK.2 ⟨3, .data⟩ (by simp) rfl _ rfl
      have h1 : a.tmps.getD 13 undef = (.agg (pw ao)) := hK.2 ⟨4, .data⟩ (by simp) rfl _ rfl
      refine uu_call 41 #[a.tmps.getD 12 undef, a.tmps.getD 13 undef] (by kernel_rfl) (by kernel_rfl) ?_
      rw [h0, h1]
      exact (HS2.out wx hC.1).mono fun e w' hh => ⟨_, hh.1, ⟨hC.1.below hh.2, hC.2.put (slots_other _ 14 5 _ (by omega)) (slots_other _ 14 6 _ (by omega)) hh.2.size⟩, (slots_put _ _ _ (by rw [hsz]; exact of_decide_eq_true (by kernel_rfl))), RM2.of hh.2⟩
    · intro a wx hC hsz hK
      have hb : Below wx.heap.size wx (wx.alloc (.cells #[.int .u64 0, .int .u64 0, .int .u64 0, .int .u64 0] 24)) := (Below.refl _ _).alloc (Nat.le_refl _) _
      exact uu_new (.pointer (some ⟨wx.heap.size, 0, none⟩)) (by kernel_rfl) (by kernel_rfl) ⟨hC.1.below hb, hC.2.newp (slots_put _ _ _ (by rw [hsz]; exact of_decide_eq_true (by kernel_rfl))) (slots_other _ 5 6 _ (by omega)) hC.1.high (by simp)⟩ ⟨_, (slots_put _ _ _ (by rw [hsz]; exact of_decide_eq_true (by kernel_rfl))), #[.int .u64 0, .int .u64 0, .int .u64 0, .int .u64 0], heap_alloc_new _ _, rfl⟩ (RM2.of hb)
    · intro a wx hC hsz hK
      have hb : Below wx.heap.size wx (wx.alloc (.cells #[.int .u64 0, .int .u64 0, .int .u64 0, .int .u64 0] 24)) := (Below.refl _ _).alloc (Nat.le_refl _) _
      exact uu_new (.pointer (some ⟨wx.heap.size, 0, none⟩)) (by kernel_rfl) (by kernel_rfl) ⟨hC.1.below hb, hC.2.newq (slots_put _ _ _ (by rw [hsz]; exact of_decide_eq_true (by kernel_rfl))) (slots_other _ 6 5 _ (by omega)) hC.1.high (by simp)⟩ ⟨_, (slots_put _ _ _ (by rw [hsz]; exact of_decide_eq_true (by kernel_rfl))), #[.int .u64 0, .int .u64 0, .int .u64 0, .int .u64 0], heap_alloc_new _ _, rfl⟩ (RM2.of hb)
    · intro a wx hC hsz hK
      obtain ⟨D, h1, cs, h3, h4⟩ := hK.2 ⟨6, .data⟩ (by simp) rfl _ rfl
      have h0 : a.tmps.getD 11 undef = (.agg (pw eo)) := hK.2 ⟨2, .data⟩ (by simp) rfl _ rfl
      exact uu_store (by kernel_rfl) rfl (run_st 24 (.tmp 5) (.tmp 11) _ _ rfl h1 h0 (store_w h4 h3)) ⟨hC.1.rowed (hC.2.ap D h1).1, hC.2.put rfl rfl (by simp)⟩ ⟨D, h1, setRow_heap _ _ _ _ _ _ h3⟩ (.inr ⟨D, pw eo, .inl ⟨h1, rfl⟩, rfl⟩)
    · intro a wx hC hsz hK
      obtain ⟨D, h1, cs, h3, h4⟩ := hK.2 ⟨7, .data⟩ (by simp) rfl _ rfl
      have h0 : a.tmps.getD 14 undef = (.agg (pw fo)) := hK.2 ⟨5, .data⟩ (by simp) rfl _ rfl
      exact uu_store (by kernel_rfl) rfl (run_st 24 (.tmp 6) (.tmp 14) _ _ rfl h1 h0 (store_w h4 h3)) ⟨hC.1.rowed (hC.2.aq D h1).1, hC.2.put rfl rfl (by simp)⟩ ⟨D, h1, setRow_heap _ _ _ _ _ _ h3⟩ (.inr ⟨D, pw fo, .inr ⟨h1, rfl⟩, rfl⟩)
  intro f1 w5 hC hf
  obtain ⟨D, s5, rp⟩ := hf 8 _ rfl
  obtain ⟨E, s6, rq⟩ := hf 9 _ rfl
  have H6 := Lib.hid (show CK w F m ao D E eo fo w5 from ⟨hC.1, rp, rq⟩)
  clear hf hC rp rq H0 HS1 HS2
  generalize hAct : putAll _ _ _ = G at *
  have s0 : G.tmps.getD 0 undef = .pointer (some ⟨F, 0, none⟩) := by subst hAct; kernel_rfl
  have s3 : G.tmps.getD 3 undef = .pointer (some ⟨w.heap.size, 0, none⟩) := by subst hAct; kernel_rfl
  have s4 : G.tmps.getD 4 undef = .pointer (some ⟨w.heap.size + 1, 0, none⟩) := by subst hAct; kernel_rfl
  have s5' : G.tmps.getD 5 undef = .pointer (some ⟨D, 0, none⟩) := s5
  have s6' : G.tmps.getD 6 undef = .pointer (some ⟨E, 0, none⟩) := s6
  have hsz : G.tmps.size = 33 := by rw [← hAct, putAll_size]; rfl
  have hdf : G.defers = [] := by subst hAct; kernel_rfl
  clear hAct s5 s6
  obtain ⟨u1, t1⟩ : ∃ u, G.tmps.getD 1 undef = u := ⟨_, rfl⟩
  obtain ⟨u2, t2⟩ : ∃ u, G.tmps.getD 2 undef = u := ⟨_, rfl⟩
  obtain ⟨u7, t7⟩ : ∃ u, G.tmps.getD 7 undef = u := ⟨_, rfl⟩
  obtain ⟨u8, t8⟩ : ∃ u, G.tmps.getD 8 undef = u := ⟨_, rfl⟩
  obtain ⟨u9, t9⟩ : ∃ u, G.tmps.getD 9 undef = u := ⟨_, rfl⟩
  obtain ⟨u10, t10⟩ : ∃ u, G.tmps.getD 10 undef = u := ⟨_, rfl⟩
  obtain ⟨u11, t11⟩ : ∃ u, G.tmps.getD 11 undef = u := ⟨_, rfl⟩
  obtain ⟨u12, t12⟩ : ∃ u, G.tmps.getD 12 undef = u := ⟨_, rfl⟩
  obtain ⟨u13, t13⟩ : ∃ u, G.tmps.getD 13 undef = u := ⟨_, rfl⟩
  obtain ⟨u14, t14⟩ : ∃ u, G.tmps.getD 14 undef = u := ⟨_, rfl⟩
  obtain ⟨u15, t15⟩ : ∃ u, G.tmps.getD 15 undef = u := ⟨_, rfl⟩
  obtain ⟨u16, t16⟩ : ∃ u, G.tmps.getD 16 undef = u := ⟨_, rfl⟩
  obtain ⟨u17, t17⟩ : ∃ u, G.tmps.getD 17 undef = u := ⟨_, rfl⟩
  obtain ⟨u18, t18⟩ : ∃ u, G.tmps.getD 18 undef = u := ⟨_, rfl⟩
  obtain ⟨u19, t19⟩ : ∃ u, G.tmps.getD 19 undef = u := ⟨_, rfl⟩
  obtain ⟨u20, t20⟩ : ∃ u, G.tmps.getD 20 undef = u := ⟨_, rfl⟩
  obtain ⟨u21, t21⟩ : ∃ u, G.tmps.getD 21 undef = u := ⟨_, rfl⟩
  obtain ⟨u22, t22⟩ : ∃ u, G.tmps.getD 22 undef = u := ⟨_, rfl⟩
  obtain ⟨u23, t23⟩ : ∃ u, G.tmps.getD 23 undef = u := ⟨_, rfl⟩
  obtain ⟨u24, t24⟩ : ∃ u, G.tmps.getD 24 undef = u := ⟨_, rfl⟩
  obtain ⟨u25, t25⟩ : ∃ u, G.tmps.getD 25 undef = u := ⟨_, rfl⟩
  obtain ⟨u26, t26⟩ : ∃ u, G.tmps.getD 26 undef = u := ⟨_, rfl⟩
  obtain ⟨u27, t27⟩ : ∃ u, G.tmps.getD 27 undef = u := ⟨_, rfl⟩
  obtain ⟨u28, t28⟩ : ∃ u, G.tmps.getD 28 undef = u := ⟨_, rfl⟩
  obtain ⟨u29, t29⟩ : ∃ u, G.tmps.getD 29 undef = u := ⟨_, rfl⟩
  obtain ⟨u30, t30⟩ : ∃ u, G.tmps.getD 30 undef = u := ⟨_, rfl⟩
  obtain ⟨u31, t31⟩ : ∃ u, G.tmps.getD 31 undef = u := ⟨_, rfl⟩
  obtain ⟨u32, t32⟩ : ∃ u, G.tmps.getD 32 undef = u := ⟨_, rfl⟩
  obtain ⟨tm, df⟩ := G
  simp only at *
  have hLt := arr_lit4 tm
  rw [hsz] at hLt
  simp only [List.range, List.range.loop, List.map] at hLt
  rw [s0, t1, t2, s3, s4, s5', s6', t7, t8, t9, t10, t11, t12, t13, t14, t15, t16, t17, t18, t19, t20, t21, t22, t23, t24, t25, t26, t27, t28, t29, t30, t31, t32] at hLt
  subst hLt hdf
  clear s0 t1 t2 s3 s4 s5' s6' t7 t8 t9 t10 t11 t12 t13 t14 t15 t16 t17 t18 t19 t20 t21 t22 t23 t24 t25 t26 t27 t28 t29 t30 t31 t32 hsz
  have HV0 := Lib.hid (heap_alloc_new w5 (.cells (#[.int .u64 0, .int .u64 0, .int .u64 0, .int .u64 0, .int .u64 0, .int .u64 0, .int .u64 0, .int .u64 0, .int .u64 0, .int .u64 0, .int .u64 0, .int .u64 0, .int .u64 0, .int .u64 0, .int .u64 0, .int .u64 0, .int .u64 0, .int .u64 0, .int .u64 0, .int .u64 0, .int .u64 0, .int .u64 0, .int .u64 0, .int .u64 0, .int .u64 0, .int .u64 0, .int .u64 0, .int .u64 0, .int .u64 0, .int .u64 0, .int .u64 0, .int .u64 0, .int .u64 0, .int .u64 0, .int .u64 0, .int .u64 0, .int .u64 0, .int .u64 0, .int .u64 0, .int .u64 0, .int .u64 0, .int .u64 0, .int .u64 0, .int .u64 0, .int .u64 0, .int .u64 0, .int .u64 0, .int .u64 0, .int .u64 0, .int .u64 0, .int .u64 0, .int .u64 0, .int .u64 0, .int .u64 0, .int .u64 0, .int .u64 0, .int .u64 0, .int .u64 0, .int .u64 0, .int .u64 0, .int .u64 0, .int .u64 0, .int .u64 0, .int .u64 0]) 68))
  have HT0 := Lib.hid (CTb.start H6.out (fun j => if j = 0 then eo else 0))
  go_wp2_with (first | (refine wpList_ld rfl 24 _ rfl (.pointer (some ⟨D, 0, none⟩)) (.agg #[.int .u64 ((pN eo 0 : Nat) : Int), .int .u64 ((pN eo 1 : Nat) : Int), .int .u64 ((pN eo 2 : Nat) : Int), .int .u64 ((pN eo 3 : Nat) : Int)]) rfl (by rw [← pw4]; exact ld_pw (by exact H6.out.rg)) ?_) | (refine wpList_store_row rfl 68 _ _ rfl w5.heap.size (ar .u64 64 (tabF (fun j => if j = 0 then eo else 0))) rfl (by kernel_rfl) 68 (#[.int .u64 0, .int .u64 0, .int .u64 0, .int .u64 0, .int .u64 0, .int .u64 0, .int .u64 0, .int .u64 0, .int .u64 0, .int .u64 0, .int .u64 0, .int .u64 0, .int .u64 0, .int .u64 0, .int .u64 0, .int .u64 0, .int .u64 0, .int .u64 0, .int .u64 0, .int .u64 0, .int .u64 0, .int .u64 0, .int .u64 0, .int .u64 0, .int .u64 0, .int .u64 0, .int .u64 0, .int .u64 0, .int .u64 0, .int .u64 0, .int .u64 0, .int .u64 0, .int .u64 0, .int .u64 0, .int .u64 0, .int .u64 0, .int .u64 0, .int .u64 0, .int .u64 0, .int .u64 0, .int .u64 0, .int .u64 0, .int .u64 0, .int .u64 0, .int .u64 0, .int .u64 0, .int .u64 0, .int .u64 0, .int .u64 0, .int .u64 0, .int .u64 0, .int .u64 0, .int .u64 0, .int .u64 0, .int .u64 0, .int .u64 0, .int .u64 0, .int .u64 0, .int .u64 0, .int .u64 0, .int .u64 0, .int .u64 0, .int .u64 0, .int .u64 0]) (by exact HV0.out) (by rw [ar_size]; exact info64) (by rw [ar_size]; rfl) (ar_one _ _ _) ?_))
  obtain ⟨w6, hw6⟩ : ∃ w6, (w5.alloc (.cells (#[.int .u64 0, .int .u64 0, .int .u64 0, .int .u64 0, .int .u64 0, .int .u64 0, .int .u64 0, .int .u64 0, .int .u64 0, .int .u64 0, .int .u64 0, .int .u64 0, .int .u64 0, .int .u64 0, .int .u64 0, .int .u64 0, .int .u64 0, .int .u64 0, .int .u64 0, .int .u64 0, .int .u64 0, .int .u64 0, .int .u64 0, .int .u64 0, .int .u64 0, .int .u64 0, .int .u64 0, .int .u64 0, .int .u64 0, .int .u64 0, .int .u64 0, .int .u64 0, .int .u64 0, .int .u64 0, .int .u64 0, .int .u64 0, .int .u64 0, .int .u64 0, .int .u64 0, .int .u64 0, .int .u64 0, .int .u64 0, .int .u64 0, .int .u64 0, .int .u64 0, .int .u64 0, .int .u64 0, .int .u64 0, .int .u64 0, .int .u64 0, .int .u64 0, .int .u64 0, .int .u64 0, .int .u64 0, .int .u64 0, .int .u64 0, .int .u64 0, .int .u64 0, .int .u64 0, .int .u64 0, .int .u64 0, .int .u64 0, .int .u64 0, .int .u64 0]) 68)).setRow w5.heap.size (ar .u64 64 (tabF (fun j => if j = 0 then eo else 0))) = w6 := ⟨_, rfl⟩
  obtain ⟨V, hV⟩ : ∃ V, w5.heap.size = V := ⟨_, rfl⟩
  rw [hw6, hV] at HT0
  rw [hw6, hV]
  replace HT0 := Lib.hid (show CTb w F m ao D E eo fo V (tabQ m ao 0) w6 from by rw [← tabQ_0, HE.out.1]; exact HT0.out)
  clear hw6 hV HV0 H6
  go_loopw [19] (fun iv wr => ∃ k : Nat, k ≤ 15 ∧ iv = .int .i64 k ∧ Hid (CTb w F m ao D E eo fo V (tabQ m ao k) wr)) (fun iv _ => 15 - (intOf iv).toNat)
  case atStart => exact ⟨0, by omega, rfl, HT0⟩
  case round =>
    obtain ⟨k, hk, rfl, H⟩ := hrel
    clear HT0
    have hk0 : (0 : Int) ≤ k := by omega
    by_cases hlt : k < 15
    · have hlt' : (k : Int) < 15 := by omega
      have HT := Lib.hid (fun wx (c : CTb w F m ao D E eo fo V (tabQ m ao k) wx) => (times_any F m (pwq m ao k) fo (Nat.lt_trans (pwq_lt HO.out.2.1 ao k) HO.out.2.2) (by rw [← HE.out.2]; exact Nat.lt_trans (Nat.mod_lt _ (by have := HO.out.2.1; omega)) HO.out.2.2) (prod_lt (Nat.lt_trans (pwq_lt HO.out.2.1 ao k) HO.out.2.2) (by rw [← HE.out.2]; exact Nat.mod_lt _ (by have := HO.out.2.1; omega))) wx c.k.c.fld).mono fun e w' hh => (⟨by rw [hh.1, ← HE.out.2, pwq_next HO.out.1 HO.out.2.1], c.below hh.2⟩ : e = .returned (.agg (pw (pwq m ao (k + 1)))) ∧ CTb w F m ao D E eo fo V (tabQ m ao k) w'))
      have HN := Lib.hid (tabQ_next m ao k)
      have HQK := Lib.hid (show tabQ m ao k k = pwq m ao k from by unfold tabQ; rw [if_pos (Nat.le_refl _)])
      obtain ⟨k1, hk1⟩ : ∃ k1, k + 1 = k1 := ⟨_, rfl⟩
      obtain ⟨x, hx⟩ : ∃ x, pwq m ao k = x := ⟨_, rfl⟩
      obtain ⟨y, hy⟩ : ∃ y, pwq m ao k1 = y := ⟨_, rfl⟩
      obtain ⟨q, hq⟩ : ∃ q, tabQ m ao k = q := ⟨_, rfl⟩
      obtain ⟨q1, hq1⟩ : ∃ q1, tabQ m ao k1 = q1 := ⟨_, rfl⟩
      rw [hk1, hx, hy, hq] at HT
      rw [hk1, hy, hq, hq1] at HN
      rw [hx, hq] at HQK
      rw [hq] at H
      have HAD := Lib.hid (show ∀ w, (binOp BinOp.add 3 (.int .i64 (k : Nat)) (.int .i64 1)).run Try.prog w = .ok (.int .i64 (k1 : Nat)) w from fun w => by
        have e : (k : Int) + 1 = (k1 : Int) := by omega
        have e2 : IntKind.i64.wrap (k1 : Int) = (k1 : Int) := by rw [IntKind.wrap_i64]; omega
        go_simp)
      have HK := Lib.hid (And.intro hlt (And.intro hk1 hq1))
      clear hk1 hx hy hq hq1 hlt hk
      go_wp2_with fail
      refine region_quiet_tail 9 (CTb w F m ao D E eo fo V q) (by kernel_rfl) (by kernel_rfl) (H.out.drew) ?_
      simp only [List.take_succ_cons, List.take_zero, List.drop_succ_cons, List.drop_zero]
      with_reducible refine q_val (.int .i64 (k : Nat)) (by kernel_rfl) (fun _ _ => by kernel_rfl) ?_
      with_reducible refine q_bin .add 3 (.tmp 22) _ 3 (.int .i64 (k : Nat)) (.int .i64 1) (.int .i64 (k1 : Nat)) rfl (by kernel_rfl) (by kernel_rfl) (by kernel_rfl) (fun _ => by kernel_rfl) (fun w' => HAD.out w') ?_
      with_reducible refine q_val (.pointer (some ⟨F, 0, none⟩)) (by kernel_rfl) (fun _ _ => by kernel_rfl) ?_
      with_reducible refine q_val (.int .i64 (k : Nat)) (by kernel_rfl) (fun _ _ => by kernel_rfl) ?_
      with_reducible refine q_sem2 (Instr.indexAt 68 (.pointer (some ⟨V, 0, none⟩)) (.int .i64 (k : Nat))) (.pointer (some ⟨V, k * 4, none⟩)) (by kernel_rfl) (by kernel_rfl) (fun w' _ => ix_tab V k (by have := HK.out; omega) w') ?_
      with_reducible refine q_load 24 (.tmp 26) (.pointer (some ⟨V, k * 4, none⟩)) (.agg (pw x)) rfl (by kernel_rfl) (by kernel_rfl) (fun _ c => (ld_tab c.rV k (by have := HK.out; omega)).trans (by rw [HQK.out])) ?_
      with_reducible refine q_load 24 (.tmp 6) (.pointer (some ⟨E, 0, none⟩)) (.agg (pw fo)) rfl (by kernel_rfl) (by kernel_rfl) (fun _ c => ld_pw c.k.rh) ?_
      with_reducible refine q_call 40 #[.pointer (some ⟨F, 0, none⟩), .agg (pw x), .agg (pw fo)] (.agg (pw y)) (by kernel_rfl) (fun _ => by kernel_rfl) (HT.out) ?_
      with_reducible refine q_sem2 (Instr.indexAt 68 (.pointer (some ⟨V, 0, none⟩)) (.int .i64 (k1 : Nat))) (.pointer (some ⟨V, k1 * 4, none⟩)) (by kernel_rfl) (by kernel_rfl) (fun w' _ => ix_tab V k1 (by have := HK.out; omega) w') ?_
      with_reducible refine wpQuiet_nil ?_
      intro wx hC
      have HC := Lib.hid hC
      clear hC H HT
      simp only [Act.put, List.setIfInBounds_toArray, List.set_cons_succ, List.set_cons_zero]
      have HP := Lib.hid (HC.out.put k1 y (by have := HK.out; omega))
      rw [HN.out] at HP
      have hth := tab_there HC.out.rV k1 (by have := HK.out; omega) y
      clear HC
      go_wp2_with (refine wpList_store_mid rfl 24 _ _ rfl V (k1 * 4) (pw y) rfl rfl (by exact hth) (by rw [pw_size]; exact infoW4) (pw_one _) ?_)
      go_roundw
      case rel => exact ⟨k1, by have := HK.out; omega, by rw [show ((k1 : Nat) : Int) = (k : Int) + 1 by have := HK.out; omega], by rw [HK.out.2.2]; exact HP⟩
      case measure => have := HK.out; simp [intOf]; omega
    · obtain rfl : k = 15 := by omega
      have hlt' : ¬ ((15 : Nat) : Int) < 15 := by omega
      obtain ⟨q, hq⟩ : ∃ q, tabQ m ao 15 = q := ⟨_, rfl⟩
      rw [hq] at H
      have HQ := Lib.hid hq
      clear hq
      have HI : Hid ((Try.prog.info? 68).map (·.size) = some (ar .u64 64 (tabF q)).size) := Lib.hid (by rw [ar_size]; exact info64)
      simp only [Int.cast_ofNat_Int]
      go_wp2_with (first | (refine wpList_load_row rfl 68 _ rfl V rfl 68 (ar .u64 64 (tabF q)) (0, 0) _ (by exact H.out.rV) Try.underlying68 rfl HI.out ?_) | (refine wpList_store_row rfl 68 _ _ rfl (w.heap.size + 1) (ar .u64 64 (tabF q)) rfl rfl 68 (#[.int .u64 0, .int .u64 0, .int .u64 0, .int .u64 0, .int .u64 0, .int .u64 0, .int .u64 0, .int .u64 0, .int .u64 0, .int .u64 0, .int .u64 0, .int .u64 0, .int .u64 0, .int .u64 0, .int .u64 0, .int .u64 0, .int .u64 0, .int .u64 0, .int .u64 0, .int .u64 0, .int .u64 0, .int .u64 0, .int .u64 0, .int .u64 0, .int .u64 0, .int .u64 0, .int .u64 0, .int .u64 0, .int .u64 0, .int .u64 0, .int .u64 0, .int .u64 0, .int .u64 0, .int .u64 0, .int .u64 0, .int .u64 0, .int .u64 0, .int .u64 0, .int .u64 0, .int .u64 0, .int .u64 0, .int .u64 0, .int .u64 0, .int .u64 0, .int .u64 0, .int .u64 0, .int .u64 0, .int .u64 0, .int .u64 0, .int .u64 0, .int .u64 0, .int .u64 0, .int .u64 0, .int .u64 0, .int .u64 0, .int .u64 0, .int .u64 0, .int .u64 0, .int .u64 0, .int .u64 0, .int .u64 0, .int .u64 0, .int .u64 0, .int .u64 0]) (by exact H.out.k.c.r1) HI.out (by rw [ar_size]; rfl) (ar_one _ _ _) ?_))
      (try simp only [Act.put, List.setIfInBounds_toArray, List.set_cons_succ, List.set_cons_zero])
      refine bodyPost_ret (v := .agg (ar .u64 64 (tabF q))) (results_cell_row (p := 4) rfl _ _ (w.heap.size + 1) 68 (ar .u64 64 (tabF q)) (0, 0) _ rfl (setRow_heap _ _ _ _ _ _ H.out.k.c.r1) Try.underlying68 rfl HI.out) rfl ⟨by rw [HQ.out], below_setRow H.out.k.c.old (by omega) _⟩
end Go.Proofs.Ytfgefifplmhopaa
namespace Go.Proofs.Ytfgefifplmhopaa
open Go.RowKit
theorem mnt_pwq {m : Nat} (ho : m % 2 = 1) (h1 : 1 < m) (a x y : Nat) : mnt m (pwq m a x) (pwq m a y) = pwq m a (x + y) := by
  unfold pwq
  rw [mnt_both ho h1, Nat.pow_add]
theorem pwq_out {m : Nat} (ho : m % 2 = 1) (h1 : 1 < m) (a x : Nat) : mnt m (pwq m a x) 1 = a ^ x % m := by
  unfold pwq
  rw [mnt_back ho h1, Nat.mul_one]
theorem dig_next (e i : Nat) : e / 16 ^ (i + 1) * 16 + e / 16 ^ i % 16 = e / 16 ^ i := by
  rw [Nat.pow_succ, ← Nat.div_div_eq_div_mul]
  omega
theorem dig_of (e i : Nat) (he : e < 115792089237316195423570985008687907853269984665640564039457584007913129639936) : pN e (i / 16) / 2 ^ (i % 16 * 4) % 16 = e / 16 ^ i % 16 := by
  unfold pN
  rw [Nat.mod_eq_of_lt he]
  have h1 : (16 : Nat) ^ i = 2 ^ (64 * (i / 16)) * 2 ^ (i % 16 * 4) := by
    rw [← Nat.pow_add, show (16 : Nat) = 2 ^ 4 from rfl, ← Nat.pow_mul]
    congr 1
    omega
  rw [h1, ← Nat.div_div_eq_div_mul]
  have h2 : 18446744073709551616 = 2 ^ (i % 16 * 4) * (16 * 2 ^ (60 - i % 16 * 4)) := by
    rw [show 18446744073709551616 = 2 ^ 64 from rfl, show (16 : Nat) = 2 ^ 4 from rfl, ← Nat.pow_add, ← Nat.pow_add]
    congr 1
    omega
  generalize e / 2 ^ (64 * (i / 16)) = z
  rw [h2, Nat.mod_mul_right_div_self, Nat.mod_mul_right_mod]
theorem and_15 (z : Nat) (h : z < 18446744073709551616) : bits .and .u64 (z : Int) 15 = ((z % 16 : Nat) : Int) := by
  have := bits_and_u64_nat z 15 h (by omega)
  rw [show z &&& 15 = z % 16 from Nat.and_two_pow_sub_one_eq_mod z 4] at this
  exact this
theorem ix_tabu (V k : Nat) (hk : k < 16) (w : World) : (Instr.indexAt 68 (.pointer (some ⟨V, 0, none⟩)) (.int .u64 (k : Nat))).run Try.prog w = .ok (.pointer (some ⟨V, k * 4, none⟩)) w := by
  have h0 : (0 : Int) ≤ k := by omega
  have h1 : (k : Int) < 16 := by omega
  go_simp
/-- The worlds of Exp. -/
structure CX (w : World) (F m a e V O : Nat) (q : Nat → Nat) (x : Nat) (wx : World) : Prop where
  old : Below w.heap.size w wx
  fld : FldAt wx F m
  hF : F < w.heap.size
  r0 : wx.heap[w.heap.size]? = some (.cells (pw a) 24 (0, 0))
  r1 : wx.heap[w.heap.size + 1]? = some (.cells (pw e) 24 (0, 0))
  r2 : wx.heap[w.heap.size + 1 + 1]? = some (.cells (#[.int .u64 0, .int .u64 0, .int .u64 0, .int .u64 0]) 24 (0, 0))
  rV : wx.heap[V]? = some (.cells (ar .u64 64 (tabF q)) 68 (0, 0))
  rO : wx.heap[O]? = some (.cells (pw x) 24 (0, 0))
  hV : w.heap.size + 3 ≤ V ∧ V < O
theorem CX.below {w wx w' : World} {F m a e V O x : Nat} {q : Nat → Nat} (c : CX w F m a e V O q x wx) (hb : Below wx.heap.size wx w') : CX w F m a e V O q x w' :=
  ⟨c.old.trans (hb.mono c.old.size), c.fld.below hb, c.hF, (hb.block _ (Array.getElem?_eq_some_iff.1 c.r0).1).trans c.r0, (hb.block _ (Array.getElem?_eq_some_iff.1 c.r1).1).trans c.r1, (hb.block _ (Array.getElem?_eq_some_iff.1 c.r2).1).trans c.r2, (hb.block _ (Array.getElem?_eq_some_iff.1 c.rV).1).trans c.rV, (hb.block _ (Array.getElem?_eq_some_iff.1 c.rO).1).trans c.rO, c.hV⟩
theorem CX.drew {w wx : World} {F m a e V O x : Nat} {q : Nat → Nat} (c : CX w F m a e V O q x wx) : CX w F m a e V O q x wx.drew := c.below (Below.drew (Below.refl _ _))
theorem CX.put {w wx : World} {F m a e V O x : Nat} {q : Nat → Nat} (c : CX w F m a e V O q x wx) (y : Nat) : CX w F m a e V O q y (wx.setRow O (pw y)) := by
  have h := c.hV
  have hF := c.hF
  exact ⟨below_setRow c.old (by omega) _, fld_row c.fld (by omega), hF, (setRow_other _ _ _ _ (by omega)).trans c.r0, (setRow_other _ _ _ _ (by omega)).trans c.r1, (setRow_other _ _ _ _ (by omega)).trans c.r2, (setRow_other _ _ _ _ (by omega)).trans c.rV, setRow_heap _ _ _ _ _ _ c.rO, h⟩
theorem CX.times {w : World} {F m a e V O x y z : Nat} {q : Nat → Nat} (hx : x < m) (hy : y < m) (hm : m < 115792089237316195423570985008687907853269984665640564039457584007913129639936) (hz : mnt m x y = z) {x0 : Nat} : ∀ wx, CX w F m a e V O q x0 wx → Calls Try.prog 40 #[.pointer (some ⟨F, 0, none⟩), .agg (pw x), .agg (pw y)] wx fun e' w' => e' = .returned (.agg (pw z)) ∧ CX w F m a e V O q x0 w' :=
  fun wx c => (times_any F m x y (Nat.lt_trans hx hm) (Nat.lt_trans hy hm) (prod_lt (Nat.lt_trans hx hm) hy) wx c.fld).mono fun _ _ hh => ⟨by rw [hh.1, hz], c.below hh.2⟩
set_option maxHeartbeats 1000000 in
theorem CX.start {w w1 : World} {F m a e : Nat} {q : Nat → Nat} {cz : Array Value} (hF : FldAt w F m) (hb : Below (w.heap.size + 3) (((w.alloc (.cells (pw a) 24)).alloc (.cells (pw e) 24)).alloc (.cells (#[.int .u64 0, .int .u64 0, .int .u64 0, .int .u64 0]) 24)) w1) : CX w F m a e w1.heap.size (w1.heap.size + 1) q (q 0) ((((w1.alloc (.cells cz 68)).setRow w1.heap.size (ar .u64 64 (tabF q))).alloc (.cells (#[.int .u64 0, .int .u64 0, .int .u64 0, .int .u64 0]) 24)).setRow (w1.heap.size + 1) (pw (q 0))) := by
  have c := CW.two hF a e
  have hs := hb.size
  simp only [World.size_alloc] at hs
  have hl := hF.less
  have c1 := c.fld.below (hb.mono (by simp))
  have hb2 : Below w1.heap.size w1 (w1.alloc (.cells cz 68)) := (Below.refl _ _).alloc (Nat.le_refl _) _
  have hb3 : Below w1.heap.size w1 ((w1.alloc (.cells cz 68)).setRow w1.heap.size (ar .u64 64 (tabF q))) := below_setRow hb2 (Nat.le_refl _) _
  have hsz : ((w1.alloc (.cells cz 68)).setRow w1.heap.size (ar .u64 64 (tabF q))).heap.size = w1.heap.size + 1 := by rw [setRow_size]; simp
  have hb4 : Below w1.heap.size w1 (((w1.alloc (.cells cz 68)).setRow w1.heap.size (ar .u64 64 (tabF q))).alloc (.cells (#[.int .u64 0, .int .u64 0, .int .u64 0, .int .u64 0]) 24)) := hb3.alloc (by rw [hsz]; omega) _
  have hb5 : Below w1.heap.size w1 ((((w1.alloc (.cells cz 68)).setRow w1.heap.size (ar .u64 64 (tabF q))).alloc (.cells (#[.int .u64 0, .int .u64 0, .int .u64 0, .int .u64 0]) 24)).setRow (w1.heap.size + 1) (pw (q 0))) := below_setRow hb4 (by omega) _
  have hrV : ((w1.alloc (.cells cz 68)).setRow w1.heap.size (ar .u64 64 (tabF q))).heap[w1.heap.size]? = some (.cells (ar .u64 64 (tabF q)) 68 (0, 0)) := setRow_heap _ _ _ _ _ _ (heap_alloc_new _ _)
  have hnw := heap_alloc_new ((w1.alloc (.cells cz 68)).setRow w1.heap.size (ar .u64 64 (tabF q))) (.cells (#[.int .u64 0, .int .u64 0, .int .u64 0, .int .u64 0]) 24)
  rw [hsz] at hnw
  have go : ∀ k, k < w.heap.size + 3 → ∀ o, (((w.alloc (.cells (pw a) 24)).alloc (.cells (pw e) 24)).alloc (.cells (#[.int .u64 0, .int .u64 0, .int .u64 0, .int .u64 0]) 24)).heap[k]? = some o → ((((w1.alloc (.cells cz 68)).setRow w1.heap.size (ar .u64 64 (tabF q))).alloc (.cells (#[.int .u64 0, .int .u64 0, .int .u64 0, .int .u64 0]) 24)).setRow (w1.heap.size + 1) (pw (q 0))).heap[k]? = some o := fun k hk o ho => (hb5.block _ (by omega)).trans ((hb.block _ hk).trans ho)
  exact ⟨(c.old.trans (hb.mono (by omega))).trans (hb5.mono (by omega)), c1.below hb5, hl, go _ (by omega) _ (c.is _ _ (by simp)), go _ (by omega) _ (c.is _ _ (by simp)), go _ (by omega) _ (c.is _ _ (by simp)), (setRow_other _ _ _ _ (by omega)).trans ((((Below.refl (w1.heap.size + 1) ((w1.alloc (.cells cz 68)).setRow w1.heap.size (ar .u64 64 (tabF q)))).alloc (by rw [hsz]; omega) (.cells (#[.int .u64 0, .int .u64 0, .int .u64 0, .int .u64 0]) 24)).block _ (by omega)).trans hrV), setRow_heap _ _ _ _ _ _ hnw, ⟨by omega, by omega⟩⟩
set_option maxRecDepth 100000 in
set_option maxHeartbeats 4000000 in
-- WHAT Exp COMES TO.
theorem fexp_any (F m a e : Nat) (ha : a < 115792089237316195423570985008687907853269984665640564039457584007913129639936) (he : e < 115792089237316195423570985008687907853269984665640564039457584007913129639936) (w : World) (hF : FldAt w F m) : Calls Try.prog 29 #[.pointer (some ⟨F, 0, none⟩), .agg (pw a), .agg (pw e)] w fun e' w' => e' = .returned (.agg (pw (a ^ e % m))) ∧ Below w.heap.size w w' := by
  have HO := Lib.hid (And.intro hF.odd (And.intro hF.big (And.intro hF.lt he)))
  have HFF := Lib.hid hF
  have HC2 := Lib.hid (CW.two hF a e)
  have HPW := Lib.hid (fun wx (c : CW w F m [(w.heap.size + 1 + 1, #[.int .u64 0, .int .u64 0, .int .u64 0, .int .u64 0]), (w.heap.size + 1, pw e), (w.heap.size, pw a)] wx) => powers_any F m a ha wx c.fld)
  have HLN := Lib.hid (fun wx => len_pw e wx)
  have hbl := bl_le e 256
  have hbs := (bl_spec e 256).1
  rw [show (2 : Nat) ^ 256 = 115792089237316195423570985008687907853269984665640564039457584007913129639936 from rfl, Nat.mod_mod, Nat.mod_eq_of_lt he] at hbs
  obtain ⟨n, hn⟩ : ∃ n, bl e 256 = n := ⟨_, rfl⟩
  rw [hn] at HLN hbl hbs
  obtain ⟨L, hL⟩ : ∃ L, (n + 3) / 4 = L := ⟨_, rfl⟩
  have HL0 := Lib.hid (show e / 16 ^ L = 0 from Nat.div_eq_of_lt (Nat.lt_of_lt_of_le hbs (by rw [show (16 : Nat) = 2 ^ 4 from rfl, ← Nat.pow_mul]; exact Nat.pow_le_pow_right (by omega) (by omega))))
  have HLL := Lib.hid (show L ≤ 64 by omega)
  obtain ⟨n3, hn3⟩ : ∃ n3, n + 3 = n3 := ⟨_, rfl⟩
  have e1 : (n : Int) + 3 = (n3 : Int) := by omega
  have e2 : IntKind.i64.wrap (n3 : Int) = (n3 : Int) := by rw [IntKind.wrap_i64]; omega
  have e3 : (n3 : Int).tdiv 4 = (L : Int) := by rw [Int.tdiv_eq_ediv_of_nonneg (by omega)]; omega
  have e4 : (n3 : Int) / 4 = (L : Int) := by omega
  have e5 : IntKind.i64.wrap (L : Int) = (L : Int) := by rw [IntKind.wrap_i64]; omega
  have e6 : IntKind.i64.wrap ((L : Int) - 1) = (L : Int) - 1 := by rw [IntKind.wrap_i64]; omega
  have hn30 : (0 : Int) ≤ n3 := by omega
  obtain ⟨q, hq⟩ : ∃ q, tabQ m a 15 = q := ⟨_, rfl⟩
  rw [hq] at HPW
  have HQ := Lib.hid (show ∀ d, d < 16 → q d = pwq m a d from fun d hd => by rw [← hq]; unfold tabQ; rw [if_pos (by omega)])
  clear hq hF ha he hbl hbs hn hL hn3
  go_enter Try.func29, Try.ntmps29
  go_wp2_with (refine wpList_ld rfl 24 _ rfl (.pointer (some ⟨w.heap.size, 0, none⟩)) (.agg (pw a)) rfl (ld_pw (by exact HC2.out.is _ _ (by simp))) ?_)
  refine (HPW.out _ HC2.out).mono ?_
  rintro e' w1 ⟨rfl, hb1⟩
  have HX := Lib.hid (CX.start (cz := #[.int .u64 0, .int .u64 0, .int .u64 0, .int .u64 0, .int .u64 0, .int .u64 0, .int .u64 0, .int .u64 0, .int .u64 0, .int .u64 0, .int .u64 0, .int .u64 0, .int .u64 0, .int .u64 0, .int .u64 0, .int .u64 0, .int .u64 0, .int .u64 0, .int .u64 0, .int .u64 0, .int .u64 0, .int .u64 0, .int .u64 0, .int .u64 0, .int .u64 0, .int .u64 0, .int .u64 0, .int .u64 0, .int .u64 0, .int .u64 0, .int .u64 0, .int .u64 0, .int .u64 0, .int .u64 0, .int .u64 0, .int .u64 0, .int .u64 0, .int .u64 0, .int .u64 0, .int .u64 0, .int .u64 0, .int .u64 0, .int .u64 0, .int .u64 0, .int .u64 0, .int .u64 0, .int .u64 0, .int .u64 0, .int .u64 0, .int .u64 0, .int .u64 0, .int .u64 0, .int .u64 0, .int .u64 0, .int .u64 0, .int .u64 0, .int .u64 0, .int .u64 0, .int .u64 0, .int .u64 0, .int .u64 0, .int .u64 0, .int .u64 0, .int .u64 0]) (q := q) HFF.out (hb1.mono (by simp)))
  have HV0 := Lib.hid (heap_alloc_new w1 (.cells (#[.int .u64 0, .int .u64 0, .int .u64 0, .int .u64 0, .int .u64 0, .int .u64 0, .int .u64 0, .int .u64 0, .int .u64 0, .int .u64 0, .int .u64 0, .int .u64 0, .int .u64 0, .int .u64 0, .int .u64 0, .int .u64 0, .int .u64 0, .int .u64 0, .int .u64 0, .int .u64 0, .int .u64 0, .int .u64 0, .int .u64 0, .int .u64 0, .int .u64 0, .int .u64 0, .int .u64 0, .int .u64 0, .int .u64 0, .int .u64 0, .int .u64 0, .int .u64 0, .int .u64 0, .int .u64 0, .int .u64 0, .int .u64 0, .int .u64 0, .int .u64 0, .int .u64 0, .int .u64 0, .int .u64 0, .int .u64 0, .int .u64 0, .int .u64 0, .int .u64 0, .int .u64 0, .int .u64 0, .int .u64 0, .int .u64 0, .int .u64 0, .int .u64 0, .int .u64 0, .int .u64 0, .int .u64 0, .int .u64 0, .int .u64 0, .int .u64 0, .int .u64 0, .int .u64 0, .int .u64 0, .int .u64 0, .int .u64 0, .int .u64 0, .int .u64 0]) 68))
  have HV1 := Lib.hid (show ((w1.alloc (.cells (#[.int .u64 0, .int .u64 0, .int .u64 0, .int .u64 0, .int .u64 0, .int .u64 0, .int .u64 0, .int .u64 0, .int .u64 0, .int .u64 0, .int .u64 0, .int .u64 0, .int .u64 0, .int .u64 0, .int .u64 0, .int .u64 0, .int .u64 0, .int .u64 0, .int .u64 0, .int .u64 0, .int .u64 0, .int .u64 0, .int .u64 0, .int .u64 0, .int .u64 0, .int .u64 0, .int .u64 0, .int .u64 0, .int .u64 0, .int .u64 0, .int .u64 0, .int .u64 0, .int .u64 0, .int .u64 0, .int .u64 0, .int .u64 0, .int .u64 0, .int .u64 0, .int .u64 0, .int .u64 0, .int .u64 0, .int .u64 0, .int .u64 0, .int .u64 0, .int .u64 0, .int .u64 0, .int .u64 0, .int .u64 0, .int .u64 0, .int .u64 0, .int .u64 0, .int .u64 0, .int .u64 0, .int .u64 0, .int .u64 0, .int .u64 0, .int .u64 0, .int .u64 0, .int .u64 0, .int .u64 0, .int .u64 0, .int .u64 0, .int .u64 0, .int .u64 0]) 68)).setRow w1.heap.size (ar .u64 64 (tabF q))).heap[w1.heap.size]? = some (.cells (ar .u64 64 (tabF q)) 68 (0, 0)) from setRow_heap _ _ _ _ _ _ HV0.out)
  have hsz1 : ((w1.alloc (.cells (#[.int .u64 0, .int .u64 0, .int .u64 0, .int .u64 0, .int .u64 0, .int .u64 0, .int .u64 0, .int .u64 0, .int .u64 0, .int .u64 0, .int .u64 0, .int .u64 0, .int .u64 0, .int .u64 0, .int .u64 0, .int .u64 0, .int .u64 0, .int .u64 0, .int .u64 0, .int .u64 0, .int .u64 0, .int .u64 0, .int .u64 0, .int .u64 0, .int .u64 0, .int .u64 0, .int .u64 0, .int .u64 0, .int .u64 0, .int .u64 0, .int .u64 0, .int .u64 0, .int .u64 0, .int .u64 0, .int .u64 0, .int .u64 0, .int .u64 0, .int .u64 0, .int .u64 0, .int .u64 0, .int .u64 0, .int .u64 0, .int .u64 0, .int .u64 0, .int .u64 0, .int .u64 0, .int .u64 0, .int .u64 0, .int .u64 0, .int .u64 0, .int .u64 0, .int .u64 0, .int .u64 0, .int .u64 0, .int .u64 0, .int .u64 0, .int .u64 0, .int .u64 0, .int .u64 0, .int .u64 0, .int .u64 0, .int .u64 0, .int .u64 0, .int .u64 0]) 68)).setRow w1.heap.size (ar .u64 64 (tabF q))).heap.size = w1.heap.size + 1 := by rw [setRow_size]; simp
  have HV2 := Lib.hid (show (((w1.alloc (.cells (#[.int .u64 0, .int .u64 0, .int .u64 0, .int .u64 0, .int .u64 0, .int .u64 0, .int .u64 0, .int .u64 0, .int .u64 0, .int .u64 0, .int .u64 0, .int .u64 0, .int .u64 0, .int .u64 0, .int .u64 0, .int .u64 0, .int .u64 0, .int .u64 0, .int .u64 0, .int .u64 0, .int .u64 0, .int .u64 0, .int .u64 0, .int .u64 0, .int .u64 0, .int .u64 0, .int .u64 0, .int .u64 0, .int .u64 0, .int .u64 0, .int .u64 0, .int .u64 0, .int .u64 0, .int .u64 0, .int .u64 0, .int .u64 0, .int .u64 0, .int .u64 0, .int .u64 0, .int .u64 0, .int .u64 0, .int .u64 0, .int .u64 0, .int .u64 0, .int .u64 0, .int .u64 0, .int .u64 0, .int .u64 0, .int .u64 0, .int .u64 0, .int .u64 0, .int .u64 0, .int .u64 0, .int .u64 0, .int .u64 0, .int .u64 0, .int .u64 0, .int .u64 0, .int .u64 0, .int .u64 0, .int .u64 0, .int .u64 0, .int .u64 0, .int .u64 0]) 68)).setRow w1.heap.size (ar .u64 64 (tabF q))).alloc (.cells (#[.int .u64 0, .int .u64 0, .int .u64 0, .int .u64 0]) 24)).heap[w1.heap.size + 1]? = some (.cells (#[.int .u64 0, .int .u64 0, .int .u64 0, .int .u64 0]) 24 (0, 0)) from by
    have := heap_alloc_new ((w1.alloc (.cells (#[.int .u64 0, .int .u64 0, .int .u64 0, .int .u64 0, .int .u64 0, .int .u64 0, .int .u64 0, .int .u64 0, .int .u64 0, .int .u64 0, .int .u64 0, .int .u64 0, .int .u64 0, .int .u64 0, .int .u64 0, .int .u64 0, .int .u64 0, .int .u64 0, .int .u64 0, .int .u64 0, .int .u64 0, .int .u64 0, .int .u64 0, .int .u64 0, .int .u64 0, .int .u64 0, .int .u64 0, .int .u64 0, .int .u64 0, .int .u64 0, .int .u64 0, .int .u64 0, .int .u64 0, .int .u64 0, .int .u64 0, .int .u64 0, .int .u64 0, .int .u64 0, .int .u64 0, .int .u64 0, .int .u64 0, .int .u64 0, .int .u64 0, .int .u64 0, .int .u64 0, .int .u64 0, .int .u64 0, .int .u64 0, .int .u64 0, .int .u64 0, .int .u64 0, .int .u64 0, .int .u64 0, .int .u64 0, .int .u64 0, .int .u64 0, .int .u64 0, .int .u64 0, .int .u64 0, .int .u64 0, .int .u64 0, .int .u64 0, .int .u64 0, .int .u64 0]) 68)).setRow w1.heap.size (ar .u64 64 (tabF q))) (.cells (#[.int .u64 0, .int .u64 0, .int .u64 0, .int .u64 0]) 24)
    rwa [hsz1] at this)
  have HV3 := Lib.hid (show (((w1.alloc (.cells (#[.int .u64 0, .int .u64 0, .int .u64 0, .int .u64 0, .int .u64 0, .int .u64 0, .int .u64 0, .int .u64 0, .int .u64 0, .int .u64 0, .int .u64 0, .int .u64 0, .int .u64 0, .int .u64 0, .int .u64 0, .int .u64 0, .int .u64 0, .int .u64 0, .int .u64 0, .int .u64 0, .int .u64 0, .int .u64 0, .int .u64 0, .int .u64 0, .int .u64 0, .int .u64 0, .int .u64 0, .int .u64 0, .int .u64 0, .int .u64 0, .int .u64 0, .int .u64 0, .int .u64 0, .int .u64 0, .int .u64 0, .int .u64 0, .int .u64 0, .int .u64 0, .int .u64 0, .int .u64 0, .int .u64 0, .int .u64 0, .int .u64 0, .int .u64 0, .int .u64 0, .int .u64 0, .int .u64 0, .int .u64 0, .int .u64 0, .int .u64 0, .int .u64 0, .int .u64 0, .int .u64 0, .int .u64 0, .int .u64 0, .int .u64 0, .int .u64 0, .int .u64 0, .int .u64 0, .int .u64 0, .int .u64 0, .int .u64 0, .int .u64 0, .int .u64 0]) 68)).setRow w1.heap.size (ar .u64 64 (tabF q))).alloc (.cells (#[.int .u64 0, .int .u64 0, .int .u64 0, .int .u64 0]) 24)).heap[w1.heap.size]? = some (.cells (ar .u64 64 (tabF q)) 68 (0, 0)) from by
    have h := ((Below.refl (w1.heap.size + 1) ((w1.alloc (.cells (#[.int .u64 0, .int .u64 0, .int .u64 0, .int .u64 0, .int .u64 0, .int .u64 0, .int .u64 0, .int .u64 0, .int .u64 0, .int .u64 0, .int .u64 0, .int .u64 0, .int .u64 0, .int .u64 0, .int .u64 0, .int .u64 0, .int .u64 0, .int .u64 0, .int .u64 0, .int .u64 0, .int .u64 0, .int .u64 0, .int .u64 0, .int .u64 0, .int .u64 0, .int .u64 0, .int .u64 0, .int .u64 0, .int .u64 0, .int .u64 0, .int .u64 0, .int .u64 0, .int .u64 0, .int .u64 0, .int .u64 0, .int .u64 0, .int .u64 0, .int .u64 0, .int .u64 0, .int .u64 0, .int .u64 0, .int .u64 0, .int .u64 0, .int .u64 0, .int .u64 0, .int .u64 0, .int .u64 0, .int .u64 0, .int .u64 0, .int .u64 0, .int .u64 0, .int .u64 0, .int .u64 0, .int .u64 0, .int .u64 0, .int .u64 0, .int .u64 0, .int .u64 0, .int .u64 0, .int .u64 0, .int .u64 0, .int .u64 0, .int .u64 0, .int .u64 0]) 68)).setRow w1.heap.size (ar .u64 64 (tabF q)))).alloc (by rw [hsz1]; omega) (.cells (#[.int .u64 0, .int .u64 0, .int .u64 0, .int .u64 0]) 24)).block w1.heap.size (by omega)
    exact h.trans HV1.out)
  clear hb1 HC2 HPW hsz1
  go_upto_region 3 with (first | (refine wpList_store_row rfl 68 _ _ rfl w1.heap.size (ar .u64 64 (tabF q)) rfl rfl 68 (#[.int .u64 0, .int .u64 0, .int .u64 0, .int .u64 0, .int .u64 0, .int .u64 0, .int .u64 0, .int .u64 0, .int .u64 0, .int .u64 0, .int .u64 0, .int .u64 0, .int .u64 0, .int .u64 0, .int .u64 0, .int .u64 0, .int .u64 0, .int .u64 0, .int .u64 0, .int .u64 0, .int .u64 0, .int .u64 0, .int .u64 0, .int .u64 0, .int .u64 0, .int .u64 0, .int .u64 0, .int .u64 0, .int .u64 0, .int .u64 0, .int .u64 0, .int .u64 0, .int .u64 0, .int .u64 0, .int .u64 0, .int .u64 0, .int .u64 0, .int .u64 0, .int .u64 0, .int .u64 0, .int .u64 0, .int .u64 0, .int .u64 0, .int .u64 0, .int .u64 0, .int .u64 0, .int .u64 0, .int .u64 0, .int .u64 0, .int .u64 0, .int .u64 0, .int .u64 0, .int .u64 0, .int .u64 0, .int .u64 0, .int .u64 0, .int .u64 0, .int .u64 0, .int .u64 0, .int .u64 0, .int .u64 0, .int .u64 0, .int .u64 0, .int .u64 0]) (by exact HV0.out) (by rw [ar_size]; exact info64) (by rw [ar_size]; rfl) (ar_one _ _ _) ?_) | (refine wpList_ld rfl 24 _ rfl (.pointer (some ⟨w1.heap.size, 0, none⟩)) (.agg (pw (q 0))) rfl (ld_tab (by first | exact HV1.out | exact HV3.out) 0 (by omega)) ?_) | (refine wpList_store_row rfl 24 _ _ rfl (w1.heap.size + 1) (pw (q 0)) rfl rfl 24 (#[.int .u64 0, .int .u64 0, .int .u64 0, .int .u64 0]) (by exact HV2.out) (by rw [pw_size]; exact infoW4) (by rw [pw_size]; rfl) (pw_one _) ?_))
  obtain ⟨w2, hw2⟩ : ∃ w2, (((w1.alloc (.cells (#[.int .u64 0, .int .u64 0, .int .u64 0, .int .u64 0, .int .u64 0, .int .u64 0, .int .u64 0, .int .u64 0, .int .u64 0, .int .u64 0, .int .u64 0, .int .u64 0, .int .u64 0, .int .u64 0, .int .u64 0, .int .u64 0, .int .u64 0, .int .u64 0, .int .u64 0, .int .u64 0, .int .u64 0, .int .u64 0, .int .u64 0, .int .u64 0, .int .u64 0, .int .u64 0, .int .u64 0, .int .u64 0, .int .u64 0, .int .u64 0, .int .u64 0, .int .u64 0, .int .u64 0, .int .u64 0, .int .u64 0, .int .u64 0, .int .u64 0, .int .u64 0, .int .u64 0, .int .u64 0, .int .u64 0, .int .u64 0, .int .u64 0, .int .u64 0, .int .u64 0, .int .u64 0, .int .u64 0, .int .u64 0, .int .u64 0, .int .u64 0, .int .u64 0, .int .u64 0, .int .u64 0, .int .u64 0, .int .u64 0, .int .u64 0, .int .u64 0, .int .u64 0, .int .u64 0, .int .u64 0, .int .u64 0, .int .u64 0, .int .u64 0, .int .u64 0]) 68)).setRow w1.heap.size (ar .u64 64 (tabF q))).alloc (.cells (#[.int .u64 0, .int .u64 0, .int .u64 0, .int .u64 0]) 24)).setRow (w1.heap.size + 1) (pw (q 0)) = w2 := ⟨_, rfl⟩
  rw [hw2] at HX ⊢
  obtain ⟨V, hV⟩ : ∃ V, w1.heap.size = V := ⟨_, rfl⟩
  rw [hV] at HX ⊢
  obtain ⟨O, hO⟩ : ∃ O, V + 1 = O := ⟨_, rfl⟩
  rw [hO] at HX ⊢
  rw [HQ.out 0 (by omega)] at HX ⊢
  clear hw2 hV hO HV0 HV1 HV2 HV3
  go_wp2_with (refine wpList_ld rfl 24 _ rfl (.pointer (some ⟨w.heap.size + 1, 0, none⟩)) (.agg (pw e)) rfl (ld_pw (by exact HX.out.r1)) ?_)
  refine (HLN.out _).mono ?_
  rintro e' w3 ⟨rfl, hb3⟩
  have H3 := Lib.hid (show CX w F m a e V O q (pwq m a (e / 16 ^ L)) w3 from by rw [HL0.out]; exact HX.out.below hb3)
  clear HX hb3 HLN
  go_wp2_with fail
  clear e1 e2 e3 e4 e5 e6 hn30
  go_loopw [9] (fun iv wr => ∃ j : Nat, j ≤ 64 ∧ iv = .int .i64 ((j : Int) - 1) ∧ Hid (CX w F m a e V O q (pwq m a (e / 16 ^ j)) wr)) (fun iv _ => (intOf iv + 1).toNat)
  case atStart => exact ⟨L, HLL.out, rfl, H3⟩
  case round =>
    obtain ⟨j, hj, rfl, H⟩ := hrel
    clear H3
    by_cases h0 : 1 ≤ j
    · obtain ⟨i, rfl⟩ : ∃ i, j = i + 1 := ⟨j - 1, by omega⟩
      rw [show (((i + 1 : Nat) : Int) - 1) = (i : Int) by omega]
      have hi0 : (0 : Int) ≤ i := by omega
      have HD := Lib.hid (dig_next e i)
      have HDO := Lib.hid (dig_of e i HO.out.2.2.2)
      obtain ⟨d, hd⟩ : ∃ d, e / 16 ^ (i + 1) = d := ⟨_, rfl⟩
      rw [hd] at HD H
      have H4 := Lib.hid (show CX w F m a e V O q (pwq m a (d * 2 ^ 0)) wr from by rw [Nat.pow_zero, Nat.mul_one]; exact H.out)
      have HI := Lib.hid hj
      clear H hd hj h0
      go_wp2_with fail
      go_loopw [25] (fun iv wr => ∃ k : Nat, k ≤ 4 ∧ iv = .int .i64 k ∧ Hid (CX w F m a e V O q (pwq m a (d * 2 ^ k)) wr)) (fun iv _ => 4 - (intOf iv).toNat)
      case atStart => exact ⟨0, by omega, rfl, H4⟩
      case round =>
        obtain ⟨k, hk, rfl, H⟩ := hrel
        clear H4
        have hk0 : (0 : Int) ≤ k := by omega
        by_cases hlt : k < 4
        · have hlt' : (k : Int) < 4 := by omega
          have hxl := pwq_lt HO.out.2.1 a (d * 2 ^ k)
          have HT := Lib.hid (CX.times (w := w) (F := F) (a := a) (e := e) (V := V) (O := O) (q := q) (x0 := pwq m a (d * 2 ^ k)) hxl hxl HO.out.2.2.1 ((mnt_pwq HO.out.1 HO.out.2.1 a (d * 2 ^ k) (d * 2 ^ k)).trans (by rw [show d * 2 ^ k + d * 2 ^ k = d * 2 ^ (k + 1) by rw [Nat.pow_succ, ← Nat.mul_assoc]; omega])))
          obtain ⟨x, hx⟩ : ∃ x, pwq m a (d * 2 ^ k) = x := ⟨_, rfl⟩
          obtain ⟨y, hy⟩ : ∃ y, pwq m a (d * 2 ^ (k + 1)) = y := ⟨_, rfl⟩
          rw [hx] at H HT
          rw [hy] at HT
          have HY := Lib.hid hy
          have HK := Lib.hid hlt
          clear hx hy hxl hk hlt
          go_wp2_with (refine wpList_ld rfl 24 _ rfl (.pointer (some ⟨O, 0, none⟩)) (.agg (pw x)) rfl (ld_pw (by exact H.out.rO)) ?_)
          refine (HT.out _ H.out).mono ?_
          rintro e' w4 ⟨rfl, c4⟩
          have H5 := Lib.hid c4
          clear c4 H HT
          go_wp2_with (refine wpList_store_row rfl 24 _ _ rfl (O) (pw y) rfl rfl 24 (pw x) (by exact H5.out.rO) (by rw [pw_size]; exact infoW4) (by first | rfl | (rw [pw_size]; rfl) | (rw [pw_size, pw_size])) (pw_one _) ?_)
          go_roundw
          case rel => exact ⟨k + 1, by have := HK.out; omega, by go_num, Lib.hid (by rw [HY.out]; exact H5.out.put y)⟩
          case measure => have := HK.out; simp [intOf]; omega
        · obtain rfl : k = 4 := by omega
          have hlt' : ¬ ((4 : Nat) : Int) < 4 := by omega
          obtain ⟨p, hp⟩ : ∃ p : Nat, i / 16 = p := ⟨_, rfl⟩
          obtain ⟨r, hr⟩ : ∃ r : Nat, i % 16 = r := ⟨_, rfl⟩
          obtain ⟨s, hs⟩ : ∃ s : Nat, r * 4 = s := ⟨_, rfl⟩
          have hpl : p < 4 := by have := HI.out; omega
          rw [hp, hr, hs] at HDO
          obtain ⟨z, hz⟩ : ∃ z, pN e p = z := ⟨_, rfl⟩
          have hzl : z < 18446744073709551616 := by rw [← hz]; exact pN_lt _ _
          rw [hz] at HDO
          have hcz : wr.cell? ⟨w.heap.size + 1, p, none⟩ = some (.int .u64 (z : Nat)) := (cell_of_row _ _ p _ _ _ H.out.r1).trans (by rw [pw_ar, ar_at _ _ _ _ hpl, hz])
          obtain ⟨g, hg⟩ : ∃ g, e / 16 ^ i % 16 = g := ⟨_, rfl⟩
          have hg16 : g < 16 := by rw [← hg]; exact Nat.mod_lt _ (by omega)
          have hzs : (z : Int) / 2 ^ s = ((z / 2 ^ s : Nat) : Int) := by push_cast; rfl
          have hzsl : z / 2 ^ s < 18446744073709551616 := Nat.lt_of_le_of_lt (Nat.div_le_self _ _) hzl
          have han := and_15 (z / 2 ^ s) hzsl
          rw [HDO.out, hg] at han
          rw [hg] at HD
          have f1 : (i : Int).tdiv 16 = (p : Int) := by rw [Int.tdiv_eq_ediv_of_nonneg hi0]; omega
          have f2 : (i : Int).tmod 16 = (r : Int) := by rw [Int.tmod_eq_emod_of_nonneg hi0]; omega
          have f1' : (i : Int) / 16 = (p : Int) := by omega
          have f2' : (i : Int) % 16 = (r : Int) := by omega
          have f3 : (r : Int) * 4 = (s : Int) := by omega
          have f4 : IntKind.i64.wrap (p : Int) = (p : Int) := by rw [IntKind.wrap_i64]; omega
          have f5 : IntKind.i64.wrap (r : Int) = (r : Int) := by rw [IntKind.wrap_i64]; omega
          have f6 : IntKind.i64.wrap (s : Int) = (s : Int) := by rw [IntKind.wrap_i64]; omega
          have hp0 : (0 : Int) ≤ p := by omega
          have hp4 : (p : Int) < 4 := by omega
          have hs0 : (0 : Int) ≤ s := by omega
          have hs64 : (s : Int) < 64 := by omega
          have hz0 : (0 : Int) ≤ z := by omega
          obtain ⟨zs, hzse⟩ : ∃ zs, z / 2 ^ s = zs := ⟨_, rfl⟩
          rw [hzse] at hzs han hzsl
          have hzz : IntKind.u64.wrap ((z : Int) / 2 ^ s) = (zs : Int) := by rw [hzs, IntKind.wrap_u64]; omega
          have HN1 := Lib.hid (And.intro HI.out hg16)
          clear hp hr hs hz hg hzse hzsl hpl HDO hzl hg16
          simp only [Int.cast_ofNat_Int]
          go_wp2_with fail
          have HQG := Lib.hid (HQ.out g HN1.out.2)
          have hxl := pwq_lt HO.out.2.1 a (d * 2 ^ 4)
          have hyl := pwq_lt HO.out.2.1 a g
          have HT := Lib.hid (CX.times (w := w) (F := F) (a := a) (e := e) (V := V) (O := O) (q := q) (x0 := pwq m a (d * 2 ^ 4)) hxl hyl HO.out.2.2.1 ((mnt_pwq HO.out.1 HO.out.2.1 a (d * 2 ^ 4) g).trans (by rw [show d * 2 ^ 4 + g = e / 16 ^ i from HD.out])))
          obtain ⟨x, hx⟩ : ∃ x, pwq m a (d * 2 ^ 4) = x := ⟨_, rfl⟩
          obtain ⟨x2, hx2⟩ : ∃ x2, pwq m a g = x2 := ⟨_, rfl⟩
          obtain ⟨y, hy⟩ : ∃ y, pwq m a (e / 16 ^ i) = y := ⟨_, rfl⟩
          rw [hx] at H HT
          rw [hx2] at HT HQG
          rw [hy] at HT
          have HY := Lib.hid hy
          clear hx hx2 hy hxl hyl
          refine region_quiet_tail 6 (CX w F m a e V O q x) (by kernel_rfl) (by kernel_rfl) (H.out.drew) ?_
          simp only [List.take_succ_cons, List.take_zero, List.drop_succ_cons, List.drop_zero]
          with_reducible refine q_val (.pointer (some ⟨F, 0, none⟩)) (by kernel_rfl) (fun _ _ => by kernel_rfl) ?_
          with_reducible refine q_load 24 (.tmp 8) (.pointer (some ⟨O, 0, none⟩)) (.agg (pw x)) rfl (by kernel_rfl) (by kernel_rfl) (fun _ c => ld_pw c.rO) ?_
          with_reducible refine q_val (.int .u64 (g : Nat)) (by kernel_rfl) (fun _ _ => by kernel_rfl) ?_
          with_reducible refine q_sem2 (Instr.indexAt 68 (.pointer (some ⟨V, 0, none⟩)) (.int .u64 (g : Nat))) (.pointer (some ⟨V, g * 4, none⟩)) (by kernel_rfl) (by kernel_rfl) (fun w' _ => ix_tabu V g HN1.out.2 w') ?_
          with_reducible refine q_load 24 (.tmp 44) (.pointer (some ⟨V, g * 4, none⟩)) (.agg (pw x2)) rfl (by kernel_rfl) (by kernel_rfl) (fun _ c => (ld_tab c.rV g HN1.out.2).trans (by rw [HQG.out])) ?_
          with_reducible refine q_call 40 #[.pointer (some ⟨F, 0, none⟩), .agg (pw x), .agg (pw x2)] (.agg (pw y)) (by kernel_rfl) (fun _ => by kernel_rfl) (HT.out) ?_
          with_reducible refine wpQuiet_nil ?_
          intro wx hC
          have HG := Lib.hid hC
          clear hC H HT
          simp only [Act.put, List.setIfInBounds_toArray, List.set_cons_succ, List.set_cons_zero]
          go_wp2_with (refine wpList_store_row rfl 24 _ _ rfl (O) (pw y) rfl rfl 24 (pw x) (by exact HG.out.rO) (by rw [pw_size]; exact infoW4) (by first | rfl | (rw [pw_size]; rfl) | (rw [pw_size, pw_size])) (pw_one _) ?_)
          go_roundw
          case rel => exact ⟨i, by have := HN1.out.1; omega, by go_num, Lib.hid (by rw [HY.out]; exact HG.out.put y)⟩
          case measure => first | (simp [intOf]; done) | (simp [intOf]; omega)
    · obtain rfl : j = 0 := by omega
      have hxl := pwq_lt HO.out.2.1 a e
      have HT := Lib.hid (CX.times (w := w) (F := F) (a := a) (e := e) (V := V) (O := O) (q := q) (x0 := pwq m a e) hxl HO.out.2.1 HO.out.2.2.1 (pwq_out HO.out.1 HO.out.2.1 a e))
      have H5 := Lib.hid (show CX w F m a e V O q (pwq m a e) wr from by have h := H.out; rwa [Nat.pow_zero, Nat.div_one] at h)
      obtain ⟨x, hx⟩ : ∃ x, pwq m a e = x := ⟨_, rfl⟩
      obtain ⟨y, hy⟩ : ∃ y, a ^ e % m = y := ⟨_, rfl⟩
      rw [hx] at H5 HT
      rw [hy] at HT
      have HY := Lib.hid hy
      clear hx hy hxl H hj h0
      rw [show (((0 : Nat) : Int) - 1) = -1 from rfl]
      go_wp2_with fail
      refine region_quiet_tail 4 (CX w F m a e V O q x) (by kernel_rfl) (by kernel_rfl) (H5.out.drew) ?_
      simp only [List.take_succ_cons, List.take_zero, List.drop_succ_cons, List.drop_zero]
      with_reducible refine q_val (.pointer (some ⟨F, 0, none⟩)) (by kernel_rfl) (fun _ _ => by kernel_rfl) ?_
      with_reducible refine q_load 24 (.tmp 8) (.pointer (some ⟨O, 0, none⟩)) (.agg (pw x)) rfl (by kernel_rfl) (by kernel_rfl) (fun _ c => ld_pw c.rO) ?_
      with_reducible refine q_call 30 #[.int .u64 (1 : Nat)] (.agg (pw 1)) (by kernel_rfl) (fun _ => by kernel_rfl) (fun wx c => (of_wv 1 (by omega) wx).mono fun e w' hh => ⟨hh.1, c.below hh.2⟩) ?_
      with_reducible refine q_call 40 #[.pointer (some ⟨F, 0, none⟩), .agg (pw x), .agg (pw 1)] (.agg (pw y)) (by kernel_rfl) (fun _ => by kernel_rfl) (HT.out) ?_
      with_reducible refine wpQuiet_nil ?_
      intro wx hC
      have HG := Lib.hid hC
      clear hC H5 HT
      simp only [Act.put, List.setIfInBounds_toArray, List.set_cons_succ, List.set_cons_zero]
      go_wp2_with (refine wpList_store_row rfl 24 _ _ rfl (w.heap.size + 1 + 1) (pw y) rfl rfl 24 (#[.int .u64 0, .int .u64 0, .int .u64 0, .int .u64 0]) (by exact HG.out.r2) (by rw [pw_size]; exact infoW4) (by first | rfl | (rw [pw_size]; rfl) | (rw [pw_size, pw_size])) (pw_one _) ?_)
      (try simp only [Act.put])
      refine bodyPost_ret (v := .agg (pw y)) (results_cell_row (p := 6) rfl _ _ (w.heap.size + 1 + 1) 24 (pw y) (0, 0) _ rfl (setRow_heap _ _ _ _ _ _ (by exact HG.out.r2)) Try.underlying24 rfl (by rw [pw_size]; exact infoW4)) rfl ⟨by rw [HY.out], below_setRow HG.out.old (by omega) _⟩
end Go.Proofs.Ytfgefifplmhopaa

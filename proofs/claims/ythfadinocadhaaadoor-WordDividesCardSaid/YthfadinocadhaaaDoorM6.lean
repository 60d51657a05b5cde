/- The texts that most laws over words stand on, together. (With it, merged: RSext · RRow · RBytes · RByte · SarLen · Signs · SignsAny · BitsAny · Open · Base.) -/
import Derived.Test.YthfadinocadhaaaDoorM5
import Derived.Test.YthfadinocadhaaaDoorM2
import Derived.IntWalk
import Derived.Test.YthfadinocadhaaaDoorM4
import Derived.BigRegion
import Derived.Test.YthfadinocadhaaaDoorCards
import Derived.Test.YthfadinocadhaaaDoorTie
import Derived.Test.YthfadinocadhaaaDoorM1
import Derived.WalkKit
import Derived.ProofKit
import Derived.OpenShut
import Derived.Deep.DeepHandedRow
import Derived.Lib.LaidTab
import Derived.Laws.IdiomArrays
import Derived.Test.YthfadinocadhaaaDoorM3
namespace Go.Proofs.YthfadinocadhaaaDoor
open Go.RowKit

def ClX (w : World) (D x Y : Nat) (wx : World) : Prop := wx.heap[w.heap.size + 1]? = some (.cells (pw x) 24 (0, 0)) ∧ wx.heap[w.heap.size + 1 + 1]? = some (.cells #[.int .u64 0, .int .u64 0, .int .u64 0, .int .u64 0] 24 (0, 0)) ∧ wx.heap[D]? = some (.cells (pw Y) 24 (0, 0)) ∧ Below w.heap.size w wx
theorem ClX.below {w wx w' : World} {D x Y : Nat} (h : ClX w D x Y wx) (hb : Below wx.heap.size wx w') : ClX w D x Y w' := by
  have l1 := (Array.getElem?_eq_some_iff.1 h.1).1
  have l2 := (Array.getElem?_eq_some_iff.1 h.2.1).1
  have l3 := (Array.getElem?_eq_some_iff.1 h.2.2.1).1
  exact ⟨(hb.block _ l1).trans h.1, (hb.block _ l2).trans h.2.1, (hb.block _ l3).trans h.2.2.1, h.2.2.2.trans (hb.mono h.2.2.2.size)⟩

theorem ClX.arg {w wx : World} {D x Y : Nat} (h : ClX w D x Y wx) : wx.heap[w.heap.size + 1]? = some (.cells (pw x) 24 (0, 0)) := h.1
theorem ClX.drew {w wx : World} {D x Y : Nat} (h : ClX w D x Y wx) : ClX w D x Y wx.drew := ⟨h.1, h.2.1, h.2.2.1, h.2.2.2.drew⟩

set_option maxRecDepth 100000 in
set_option maxHeartbeats 2000000 in
theorem sextr_in (k x n : Nat) (hn : n ≤ 30) (w : World) (hN : ∀ w, Calls Tryd.prog 79 #[.agg (pw k)] w fun e w' => e = .returned (.int .i64 (n : Nat)) ∧ Below w.heap.size w w') :
    Calls Tryd.prog 34 #[.agg (pw k), .agg (pw x)] w fun e w' => e = .returned (.agg (pw (sx x (x % 115792089237316195423570985008687907853269984665640564039457584007913129639936 / 2 ^ (8 * n + 7) % 2) (8 * n + 8) (248 - 8 * n)))) ∧ Below w.heap.size w w' := by
  have hi : (Tryd.prog.info? 24).map (·.size) = some 4 := by kernel_rfl
  have HI4 := Lib.hid hi; clear hi
  have HN := Lib.hid hN; clear hN
  obtain ⟨h, hh⟩ : ∃ h : Nat, 8 * (n : Int) + 7 = (h : Int) := ⟨8 * n + 7, by omega⟩
  rw [show 8 * n + 7 = h by omega, show 8 * n + 8 = h + 1 by omega, show 248 - 8 * n = 256 - (h + 1) by omega]
  have hB := fun (w : World) => bit_ref x h (by omega) w
  have hc : x % 115792089237316195423570985008687907853269984665640564039457584007913129639936 / 2 ^ h % 2 < 2 := Nat.mod_lt _ (by omega)
  generalize x % 115792089237316195423570985008687907853269984665640564039457584007913129639936 / 2 ^ h % 2 = c at *
  have HB := Lib.hid hB; clear hB
  have hn1 : (n : Int) < 31 := by omega
  have hn2 : (n : Int) ≤ 30 := by omega
  have hn0 : (0 : Int) ≤ n := by omega
  have hh0 : (0 : Int) ≤ h := by omega
  have hh1 : (h : Int) ≤ 247 := by omega
  have HC := Lib.hid hc; clear hc hn
  go_enter Tryd.func34, Tryd.ntmps34
  go_wp2_with (refine wpList_load_row rfl 24 _ rfl w.heap.size rfl 24 (pw k) (0, 0) _ (heap3 _ _ _ _).1 Tryd.underlying24 rfl HI4.out ?_)
  refine (HN.out _).mono ?_
  rintro e w1 ⟨rfl, hb⟩
  have HX : Hid (w1.heap[w.heap.size + 1]? = some (.cells (pw x) 24 (0, 0)) ∧ w1.heap[w.heap.size + 1 + 1]? = some (.cells #[.int .u64 0, .int .u64 0, .int .u64 0, .int .u64 0] 24 (0, 0)) ∧ Below w.heap.size w w1) := Lib.hid ⟨(hb.block _ (by simp)).trans (heap3 _ _ _ _).2.1, (hb.block _ (by simp)).trans (heap3 _ _ _ _).2.2, Below.trans (by go_grown) (hb.mono (by simp; omega))⟩
  clear hb
  have hsz : w.heap.size + 1 + 1 < w1.heap.size := (Array.getElem?_eq_some_iff.1 HX.out.2.1).1
  go_wp2_with (first | (refine wpList_load_row rfl 24 _ rfl (w.heap.size + 1) rfl 24 (pw x) (0, 0) _ HX.out.1 Tryd.underlying24 rfl HI4.out ?_) | (refine wpList_store_row rfl 24 _ _ rfl w1.heap.size (pw x) rfl rfl 24 #[.int .u64 0, .int .u64 0, .int .u64 0, .int .u64 0] (heap_alloc_new _ _) HI4.out rfl (pw_one _) ?_))
  go_loopw [8] (fun iv wr => ∃ i : Nat, h + 1 ≤ i ∧ i ≤ 256 ∧ iv = .int .i64 i ∧ Hid (ClX w w1.heap.size x (sx x c (h + 1) (i - (h + 1))) wr)) (fun iv _ => 256 - (intOf iv).toNat)
  case atStart =>
    refine ⟨h + 1, by omega, by omega, by go_num, Lib.hid ⟨?_, ?_, ?_, ?_⟩⟩
    · exact (setRow_other _ _ _ _ (by omega)).trans ((heap_alloc_old _ _ (by omega)).trans HX.out.1)
    · exact (setRow_other _ _ _ _ (by omega)).trans ((heap_alloc_old _ _ (by omega)).trans HX.out.2.1)
    · rw [Nat.sub_self]; exact setRow_heap _ _ _ _ _ _ (heap_alloc_new _ _)
    · exact below_setRow (HX.out.2.2.trans (by go_grown)) (by omega) _
  case round =>
    obtain ⟨i, hi0, hi1, rfl, H⟩ := hrel
    have hk0 : (0 : Int) ≤ i := by omega
    have hk1 : (i : Int) ≤ 256 := by omega
    by_cases hlt : i < 256
    · have hlt' : (i : Int) < 256 := by omega
      obtain ⟨p, hp⟩ : ∃ p : Nat, (i : Int) / 64 = (p : Int) := ⟨i / 64, by omega⟩
      obtain ⟨s, hs⟩ : ∃ s : Nat, (i : Int) % 64 = (s : Int) := ⟨i % 64, by omega⟩
      have hp0 : (0 : Int) ≤ p := by omega
      have hp1 : (p : Int) < 4 := by omega
      have hs0 : (0 : Int) ≤ s := by omega
      have hs1 : (s : Int) < 64 := by omega
      obtain ⟨Y, hY⟩ : ∃ Y, sx x c (h + 1) (i - (h + 1)) = Y := ⟨_, rfl⟩
      rw [hY] at H
      have HV := Lib.hid (part_bset (pN Y p) c s (pN_le _ _) (by omega) HC.out)
      have HSET : Hid ((pw Y).setIfInBounds p (.int .u64 ((bset (pN Y p) c s : Nat) : Int)) = pw (sx x c (h + 1) (i + 1 - (h + 1)))) := Lib.hid (by
        rw [pw_set Y c i p s HC.out (by omega) (by omega), show i + 1 - (h + 1) = (i - (h + 1)) + 1 by omega, sx, hY, show h + 1 + (i - (h + 1)) = i by omega])
      clear hY
      have u1 : IntKind.i64.wrap (p : Int) = (p : Int) := IntWalk.i64_in _ (by omega)
      have u2 : IntKind.i64.wrap (s : Int) = (s : Int) := IntWalk.i64_in _ (by omega)
      go_wp2_with fail
      refine region_quiet_tail 20 (ClX w w1.heap.size x Y) (by kernel_rfl) (by kernel_rfl) H.out.drew ?_
      simp only [List.take_succ_cons, List.take_zero, List.drop_succ_cons, List.drop_zero]
      refine wpQuiet_step (fun K hK => ?_)
      go_simp
      refine ⟨_, fun _ _ => rfl, hK _ ?_⟩
      clear hK K
      refine wpQuiet_step (fun K hK => ?_)
      go_simp
      refine ⟨_, fun _ _ => rfl, hK _ ?_⟩
      clear hK K
      refine wpQuiet_step (fun K hK => ?_)
      go_simp
      refine ⟨_, fun _ _ => rfl, hK _ ?_⟩
      clear hK K
      refine wpQuiet_step (fun K hK => ?_)
      go_simp
      refine ⟨_, fun _ _ => rfl, hK _ ?_⟩
      clear hK K
      refine wpQuiet_step (fun K hK => ?_)
      go_simp
      refine ⟨_, fun _ _ => rfl, hK _ ?_⟩
      clear hK K
      refine wpQuiet_step (fun K hK => ?_)
      rw [if_pos (by rfl)]
      refine ⟨.int .u64 (pN Y p : Nat), fun wx hC => ?_, hK _ ?_⟩
      · have ca : wx.cell? ⟨w1.heap.size, p, none⟩ = some (.int .u64 (pN Y p : Nat)) := (cell_of_row _ _ p _ _ _ hC.2.2.1).trans (pw_at Y p (by omega))
        go_simp
      clear hK K
      refine wpQuiet_step (fun K hK => ?_)
      go_simp
      refine ⟨_, fun _ _ => rfl, hK _ ?_⟩
      clear hK K
      refine wpQuiet_step (fun K hK => ?_)
      go_simp
      refine ⟨_, fun _ _ => rfl, hK _ ?_⟩
      clear hK K
      refine wpQuiet_step (fun K hK => ?_)
      go_simp
      refine ⟨_, fun _ _ => rfl, hK _ ?_⟩
      clear hK K
      refine wpQuiet_step (fun K hK => ?_)
      go_simp
      refine ⟨_, fun _ _ => rfl, hK _ ?_⟩
      clear hK K
      refine wpQuiet_step (fun K hK => ?_)
      go_simp
      refine ⟨_, fun _ _ => rfl, hK _ ?_⟩
      clear hK K
      with_reducible refine q_load 24 (.tmp 3) (.pointer (some ⟨w.heap.size + 1, 0, none⟩)) (wv x) rfl (by kernel_rfl) (by kernel_rfl) (fun wx hC => load_pw hC.arg) ?_
      refine wpQuiet_step (fun K hK => ?_)
      go_simp
      refine ⟨_, fun _ _ => rfl, hK _ ?_⟩
      clear hK K
      with_reducible refine q_call 70 #[wv x, .int .i64 (h : Nat)] (.int .u64 (c : Nat)) (by kernel_rfl) (fun _ => by kernel_rfl) (fun wx hC => (HB.out wx).mono fun e w' hh => ⟨hh.1, hC.below hh.2⟩) ?_
      refine wpQuiet_step (fun K hK => ?_)
      go_simp
      refine ⟨_, fun _ _ => rfl, hK _ ?_⟩
      clear hK K
      refine wpQuiet_step (fun K hK => ?_)
      go_simp
      refine ⟨_, fun _ _ => rfl, hK _ ?_⟩
      clear hK K
      refine wpQuiet_step (fun K hK => ?_)
      go_simp
      refine ⟨_, fun _ _ => rfl, hK _ ?_⟩
      clear hK K
      refine wpQuiet_step (fun K hK => ?_)
      go_simp
      refine ⟨_, fun _ _ => rfl, hK _ ?_⟩
      clear hK K
      refine wpQuiet_step (fun K hK => ?_)
      go_simp
      refine ⟨_, fun _ _ => rfl, hK _ ?_⟩
      clear hK K
      refine wpQuiet_step (fun K hK => ?_)
      go_simp
      refine ⟨_, fun _ _ => rfl, hK _ ?_⟩
      clear hK K
      refine wpQuiet_nil ?_
      intro wx hC
      have ca : wx.cell? ⟨w1.heap.size, p, none⟩ = some (.int .u64 (pN Y p : Nat)) := (cell_of_row _ _ p _ _ _ hC.2.2.1).trans (pw_at Y p (by omega))
      have cf : wx.frozen? ⟨w1.heap.size, p, none⟩ = false := frozen_of_row _ _ p _ _ hC.2.2.1
      have HX2 := Lib.hid hC; clear hC
      go_wp2_with fail
      go_roundw
      case rel =>
        refine ⟨i + 1, by omega, by omega, by go_num, Lib.hid ⟨(heap_setCell_other wx _ _ _ (by simp; omega)).trans HX2.out.1, (heap_setCell_other wx _ _ _ (by simp; omega)).trans HX2.out.2.1, ?_, HX2.out.2.2.2.setCell (by simp; omega) _⟩⟩
        rw [show min (i % 64) 64 = s by omega, HV.out, heap_setCell_same wx _ _ _ _ _ HX2.out.2.2.1, HSET.out]
      case measure => simp [intOf]; omega
    · obtain rfl : i = 256 := by omega
      have H3 := H
      go_wp2_with (first | (refine wpList_load_row rfl 24 _ rfl w1.heap.size rfl 24 _ (0, 0) _ H.out.2.2.1 Tryd.underlying24 rfl HI4.out ?_) | (refine wpList_store_row rfl 24 _ _ rfl (w.heap.size + 1 + 1) (pw (sx x c (h + 1) (256 - (h + 1)))) rfl rfl 24 #[.int .u64 0, .int .u64 0, .int .u64 0, .int .u64 0] H.out.2.1 HI4.out rfl (pw_one _) ?_))
      (try simp only [Exit.inBlock, Exit.then])
      exact bodyPost_ret (v := .agg (pw (sx x c (h + 1) (256 - (h + 1))))) (results_cell_row (p := 4) rfl _ _ (w.heap.size + 1 + 1) 24 _ (0, 0) _ rfl (setRow_heap _ _ _ _ _ _ H.out.2.1) Tryd.underlying24 rfl HI4.out) rfl ⟨rfl, below_setRow H.out.2.2.2 (by omega) _⟩

set_option maxRecDepth 100000 in
set_option maxHeartbeats 2000000 in
theorem sextr_far (k x n : Nat) (hn : 31 ≤ n) (w : World) (hN : ∀ w, Calls Tryd.prog 79 #[.agg (pw k)] w fun e w' => e = .returned (.int .i64 (n : Nat)) ∧ Below w.heap.size w w') :
    Calls Tryd.prog 34 #[.agg (pw k), .agg (pw x)] w fun e w' => e = .returned (.agg (pw x)) ∧ Below w.heap.size w w' := by
  have hi : (Tryd.prog.info? 24).map (·.size) = some 4 := by kernel_rfl
  have HI4 := Lib.hid hi; clear hi
  have HN := Lib.hid hN; clear hN
  have hn1 : (31 : Int) ≤ n := by omega
  clear hn
  go_enter Tryd.func34, Tryd.ntmps34
  go_wp2_with (refine wpList_load_row rfl 24 _ rfl w.heap.size rfl 24 (pw k) (0, 0) _ (heap3 _ _ _ _).1 Tryd.underlying24 rfl HI4.out ?_)
  refine (HN.out _).mono ?_
  rintro e w1 ⟨rfl, hb⟩
  have HX : Hid (w1.heap[w.heap.size + 1]? = some (.cells (pw x) 24 (0, 0)) ∧ w1.heap[w.heap.size + 1 + 1]? = some (.cells #[.int .u64 0, .int .u64 0, .int .u64 0, .int .u64 0] 24 (0, 0)) ∧ Below w.heap.size w w1) := Lib.hid ⟨(hb.block _ (by simp)).trans (heap3 _ _ _ _).2.1, (hb.block _ (by simp)).trans (heap3 _ _ _ _).2.2, Below.trans (by go_grown) (hb.mono (by simp; omega))⟩
  clear hb
  go_wp2_with (first | (refine wpList_load_row rfl 24 _ rfl (w.heap.size + 1) rfl 24 (pw x) (0, 0) _ HX.out.1 Tryd.underlying24 rfl HI4.out ?_) | (refine wpList_store_row rfl 24 _ _ rfl (w.heap.size + 1 + 1) (pw x) rfl rfl 24 #[.int .u64 0, .int .u64 0, .int .u64 0, .int .u64 0] HX.out.2.1 HI4.out rfl (pw_one _) ?_))
  (try simp only [Exit.inBlock, Exit.then])
  exact bodyPost_ret (v := .agg (pw x)) (results_cell_row (p := 4) rfl _ _ (w.heap.size + 1 + 1) 24 _ (0, 0) _ rfl (setRow_heap _ _ _ _ _ _ HX.out.2.1) Tryd.underlying24 rfl HI4.out) rfl ⟨rfl, below_setRow HX.out.2.2 (by omega) _⟩

-- WHAT bailiwickref01.SignExtend COMES TO.
theorem sext_ref (k x : Nat) (w : World) :
    Calls Tryd.prog 34 #[wv k, wv x] w fun e w' => e = .returned (wv (sextN k x)) ∧ Below w.heap.size w w' := by
  have hM : (2 : Nat) ^ 256 = 115792089237316195423570985008687907853269984665640564039457584007913129639936 := by rfl
  have hx : x % 115792089237316195423570985008687907853269984665640564039457584007913129639936 < 2 ^ 256 := by rw [hM]; exact Nat.mod_lt _ (by omega)
  have hN := fun w => num_any k w
  rw [wv_pw k] at hN
  rw [wv_pw, wv_pw, ← pw_mod x]
  unfold sextN
  generalize hn : k % 115792089237316195423570985008687907853269984665640564039457584007913129639936 = n at *
  generalize hX : x % 115792089237316195423570985008687907853269984665640564039457584007913129639936 = X at *
  by_cases h : n ≤ 30
  · rw [if_pos h, show min n 256 = n by omega] at *
    have hs := sx_sext X n h hx
    have hr := sextr_in k X n h w hN
    rw [show X % 115792089237316195423570985008687907853269984665640564039457584007913129639936 = X by rw [← hX, Nat.mod_mod]] at hr
    rw [hs] at hr
    refine hr.mono fun e w' hh => ⟨?_, hh.2⟩
    rw [hh.1, ← hX, Nat.mod_mul_mod, wv_pw]
  · rw [if_neg h]
    refine (sextr_far k X _ (by omega) w hN).mono fun e w' hh => ⟨?_, hh.2⟩
    rw [hh.1, ← hX, pw_mod, wv_pw]
end Go.Proofs.YthfadinocadhaaaDoor
namespace Go.Proofs.YthfadinocadhaaaDoor
open Go.RowKit

theorem vd_split (d : Nat → Nat) (j : Nat) : ∀ n, j < n → ∃ r, vd d n = vd d j + 65536 ^ j * (d j + 65536 * r)
  | 0, h => by omega
  | n + 1, h => by
    by_cases e : j = n
    · subst e; exact ⟨0, by simp [vd]⟩
    · obtain ⟨r, hr⟩ := vd_split d j n (by omega)
      refine ⟨r + 65536 ^ (n - j - 1) * d n, ?_⟩
      simp only [vd]
      rw [hr, show 65536 ^ n = 65536 ^ j * (65536 * 65536 ^ (n - j - 1)) by rw [← Nat.pow_succ', ← Nat.pow_add, show j + (n - j - 1 + 1) = n by omega]]
      simp only [Nat.mul_add, Nat.mul_assoc, Nat.add_assoc]
theorem vd_digit {d : Nat → Nat} {n : Nat} (h : ∀ j, j < n → d j < 65536) (j : Nat) (hj : j < n) : d j = vd d n / 65536 ^ j % 65536 := by
  obtain ⟨r, hr⟩ := vd_split d j n hj
  have hl := vd_lt (d := d) (n := j) (fun i hi => h i (by omega))
  have hd := h j hj
  rw [hr, Nat.add_comm, Nat.mul_add_div (Nat.pow_pos (by omega)), Nat.div_eq_of_lt hl]
  omega
theorem byte_low (x k : Nat) (hk : k < 16) : x % 115792089237316195423570985008687907853269984665640564039457584007913129639936 / 65536 ^ k % 65536 % 256 = bt x (31 - 2 * k) := by
  unfold bt
  rw [show 31 - (31 - 2 * k) = 2 * k by omega, Nat.pow_mul, show (256 : Nat) ^ 2 = 65536 by rfl]
  omega
theorem byte_high (x k : Nat) (hk : k < 16) : x % 115792089237316195423570985008687907853269984665640564039457584007913129639936 / 65536 ^ k % 65536 / 256 = bt x (30 - 2 * k) := by
  unfold bt
  rw [show 31 - (30 - 2 * k) = 2 * k + 1 by omega, Nat.pow_succ, Nat.pow_mul, show (256 : Nat) ^ 2 = 65536 by rfl, ← Nat.div_div_eq_div_mul]
  omega

/-- The row of bytes, of which the last 2 k have been written. -/
def brw (f : Nat → Nat) (k : Nat) : Array Value := ((List.range 32).map fun j => Value.int .u8 ((if 32 ≤ j + 2 * k then f j else 0 : Nat) : Int)).toArray
theorem brw_size (f : Nat → Nat) (k : Nat) : (brw f k).size = 32 := by simp [brw]
theorem brw_at (f : Nat → Nat) (k j : Nat) (h : j < 32) : (brw f k)[j]? = some (.int .u8 ((if 32 ≤ j + 2 * k then f j else 0 : Nat) : Int)) := by
  simp [brw, h]
theorem brw_nought (f : Nat → Nat) : brw f 0 = #[.int .u8 0, .int .u8 0, .int .u8 0, .int .u8 0, .int .u8 0, .int .u8 0, .int .u8 0, .int .u8 0, .int .u8 0, .int .u8 0, .int .u8 0, .int .u8 0, .int .u8 0, .int .u8 0, .int .u8 0, .int .u8 0, .int .u8 0, .int .u8 0, .int .u8 0, .int .u8 0, .int .u8 0, .int .u8 0, .int .u8 0, .int .u8 0, .int .u8 0, .int .u8 0, .int .u8 0, .int .u8 0, .int .u8 0, .int .u8 0, .int .u8 0, .int .u8 0] := by kernel_rfl
theorem brw_full (f : Nat → Nat) : brw f 16 = brow f 32 := by
  apply Array.ext
  · simp [brw, brow]
  · intro i h1 h2
    have hi : i < 32 := by simpa [brow] using h2
    simp [brw, brow, hi]
theorem brw_one (f : Nat → Nat) (k : Nat) : (brw f k).all (·.oneCell') = true := by
  simp [brw, Value.oneCell']
theorem brw_get (f : Nat → Nat) (k i : Nat) (h : i < (brw f k).size) : (brw f k)[i] = Value.int .u8 ((if 32 ≤ i + 2 * k then f i else 0 : Nat) : Int) := by
  simp [brw]
theorem brw_set (f : Nat → Nat) (k : Nat) (h : k < 16) : ((brw f k).setIfInBounds (31 - 2 * k) (.int .u8 (f (31 - 2 * k) : Nat))).setIfInBounds (30 - 2 * k) (.int .u8 (f (30 - 2 * k) : Nat)) = brw f (k + 1) := by
  apply Array.ext
  · simp [brw]
  · intro i h1 h2
    have hs : i < (brw f k).size := by simpa using h1
    have hs2 : i < ((brw f k).setIfInBounds (31 - 2 * k) (.int .u8 (f (31 - 2 * k) : Nat))).size := by simpa using h1
    rw [brw_get, Array.getElem_setIfInBounds hs2, Array.getElem_setIfInBounds hs, brw_get]
    by_cases e : 30 - 2 * k = i
    · rw [if_pos e, if_pos (show 32 ≤ i + 2 * (k + 1) by omega), e]
    · rw [if_neg e]
      by_cases e2 : 31 - 2 * k = i
      · rw [if_pos e2, if_pos (show 32 ≤ i + 2 * (k + 1) by omega), e2]
      · rw [if_neg e2]
        by_cases l : 32 ≤ i + 2 * k
        · rw [if_pos l, if_pos (show 32 ≤ i + 2 * (k + 1) by omega)]
        · rw [if_neg l, if_neg (show ¬ 32 ≤ i + 2 * (k + 1) by omega)]
theorem and_255 (z : Nat) (h : z < 65536) : bits .and .u64 (z : Int) 255 = ((z % 256 : Nat) : Int) := by
  have := bits_and_u64_nat z 255 (by omega) (by omega)
  rw [show z &&& 255 = z % 256 from Nat.and_two_pow_sub_one_eq_mod z 8] at this
  exact this

end Go.Proofs.YthfadinocadhaaaDoor
namespace Go.Proofs.YthfadinocadhaaaDoor
open Go.RowKit

set_option maxRecDepth 100000 in
set_option maxHeartbeats 2000000 in
theorem rbytes_walk (x : Nat) (w : World) :
    Calls Tryd.prog 51 #[.agg (pw x)] w fun e w' => e = .returned (.agg (brow (bt x) 32)) ∧ Below w.heap.size w w' := by
  have hi : (Tryd.prog.info? 24).map (·.size) = some 4 := by kernel_rfl
  have HI4 := Lib.hid hi; clear hi
  go_enter Tryd.func51, Tryd.ntmps51
  go_wp2_with (refine wpList_load_row rfl 24 _ rfl w.heap.size rfl 24 (pw x) (0, 0) _ (heap2 _ _ _).1 Tryd.underlying24 rfl HI4.out ?_)
  refine (digits_any x _).mono ?_
  rintro e w1 ⟨b, cp, d, rfl, hbs, hD, hdl, hdv, hb⟩
  have hdd : ∀ j, j < 16 → d j = x % 115792089237316195423570985008687907853269984665640564039457584007913129639936 / 65536 ^ j % 65536 := fun j hj => by rw [← hdv]; exact vd_digit hdl j hj
  have HDD := Lib.hid hdd; clear hdd hdl hdv
  have hsz1 : w.heap.size + 1 < w1.heap.size := by have := hb.size; simp at this; omega
  have hr1 : w1.heap[w.heap.size + 1]? = some (.cells (brw (bt x) 0) 36 (0, 0)) := by
    rw [brw_nought]; exact (hb.block _ (by simp)).trans (heap2 _ _ _).2
  have hB1 : Below w.heap.size w w1 := Below.trans (by go_grown) (hb.mono (by simp; omega))
  have HR := Lib.hid (And.intro hr1 (And.intro hB1 (And.intro hD hsz1)))
  clear hr1 hB1 hD hb hbs hsz1
  have hi32 : (Tryd.prog.info? 36).map (·.size) = some (#[.int .u8 0, .int .u8 0, .int .u8 0, .int .u8 0, .int .u8 0, .int .u8 0, .int .u8 0, .int .u8 0, .int .u8 0, .int .u8 0, .int .u8 0, .int .u8 0, .int .u8 0, .int .u8 0, .int .u8 0, .int .u8 0, .int .u8 0, .int .u8 0, .int .u8 0, .int .u8 0, .int .u8 0, .int .u8 0, .int .u8 0, .int .u8 0, .int .u8 0, .int .u8 0, .int .u8 0, .int .u8 0, .int .u8 0, .int .u8 0, .int .u8 0, .int .u8 0] : Array Value).size := by kernel_rfl
  have HI32 := Lib.hid hi32; clear hi32
  go_wp2_with (refine wpList_store_row rfl 36 _ _ rfl w1.heap.size #[.int .u8 0, .int .u8 0, .int .u8 0, .int .u8 0, .int .u8 0, .int .u8 0, .int .u8 0, .int .u8 0, .int .u8 0, .int .u8 0, .int .u8 0, .int .u8 0, .int .u8 0, .int .u8 0, .int .u8 0, .int .u8 0, .int .u8 0, .int .u8 0, .int .u8 0, .int .u8 0, .int .u8 0, .int .u8 0, .int .u8 0, .int .u8 0, .int .u8 0, .int .u8 0, .int .u8 0, .int .u8 0, .int .u8 0, .int .u8 0, .int .u8 0, .int .u8 0] rfl rfl 36 #[.int .u8 0, .int .u8 0, .int .u8 0, .int .u8 0, .int .u8 0, .int .u8 0, .int .u8 0, .int .u8 0, .int .u8 0, .int .u8 0, .int .u8 0, .int .u8 0, .int .u8 0, .int .u8 0, .int .u8 0, .int .u8 0, .int .u8 0, .int .u8 0, .int .u8 0, .int .u8 0, .int .u8 0, .int .u8 0, .int .u8 0, .int .u8 0, .int .u8 0, .int .u8 0, .int .u8 0, .int .u8 0, .int .u8 0, .int .u8 0, .int .u8 0, .int .u8 0] (heap_alloc_new _ _) HI32.out rfl (by kernel_rfl) ?_)
  go_loopw [5] (fun iv wr => ∃ k : Nat, k ≤ 16 ∧ iv = .int .i64 k ∧ Hid (wr.heap[w1.heap.size]? = some (.cells (brw (bt x) k) 36 (0, 0)) ∧ Below w1.heap.size w1 wr)) (fun iv _ => 16 - (intOf iv).toNat)
  case atStart =>
    refine ⟨0, by omega, rfl, Lib.hid ⟨?_, below_setRow (by go_grown) (Nat.le_refl _) _⟩⟩
    rw [brw_nought]; exact setRow_heap _ _ _ _ _ _ (heap_alloc_new _ _)
  case round =>
    obtain ⟨k, hk, rfl, H⟩ := hrel
    have hk0 : (0 : Int) ≤ k := by omega
    have hk1 : (k : Int) ≤ 16 := by omega
    by_cases hlt : k < 16
    · obtain ⟨q1, hq1⟩ : ∃ q : Nat, 31 - 2 * (k : Int) = (q : Int) := ⟨31 - 2 * k, by omega⟩
      obtain ⟨q2, hq2⟩ : ∃ q : Nat, 30 - 2 * (k : Int) = (q : Int) := ⟨30 - 2 * k, by omega⟩
      have a0 : (0 : Int) ≤ q1 := by omega
      have a1 : (q1 : Int) < 32 := by omega
      have b0 : (0 : Int) ≤ q2 := by omega
      have b1 : (q2 : Int) < 32 := by omega
      have hne : q2 ≠ q1 := by omega
      have hne' : q1 ≠ q2 := by omega
      have cd : wr.cell? ⟨b, k, none⟩ = some (.int .u64 (d k : Nat)) := ((HR.out.2.2.1.below H.out.2).2 k hlt)
      have c1 : wr.cell? ⟨w1.heap.size, q1, none⟩ = some (.int .u8 0) := by
        rw [cell_of_row wr _ q1 _ _ _ H.out.1, brw_at _ _ _ (by omega), if_neg (by omega)]; rfl
      have c2 : wr.cell? ⟨w1.heap.size, q2, none⟩ = some (.int .u8 0) := by
        rw [cell_of_row wr _ q2 _ _ _ H.out.1, brw_at _ _ _ (by omega), if_neg (by omega)]; rfl
      have f1 : wr.frozen? ⟨w1.heap.size, q1, none⟩ = false := frozen_of_row wr _ q1 _ _ H.out.1
      have f2 : wr.frozen? ⟨w1.heap.size, q2, none⟩ = false := frozen_of_row wr _ q2 _ _ H.out.1
      go_wp2
      have hbn : b ≠ w1.heap.size := by have := HR.out.2.2.1.1; omega
      have hbn' : w1.heap.size ≠ b := Ne.symm hbn
      have hd1 : d k < 65536 := by rw [HDD.out k hlt]; omega
      clear hk1
      go_region
      go_wp2
      go_roundw
      case rel =>
        have hv1 : bits .and .u64 ((d k : Nat) : Int) 255 % 256 = ((bt x (31 - 2 * k) : Nat) : Int) := by
          rw [and_255 _ hd1, ← byte_low x k hlt, ← HDD.out k hlt]; omega
        have hv2 : ((d k : Nat) : Int) / 256 = ((bt x (30 - 2 * k) : Nat) : Int) := by
          rw [← byte_high x k hlt, ← HDD.out k hlt]; omega
        have e1 : q1 = 31 - 2 * k := by omega
        have e2 : q2 = 30 - 2 * k := by omega
        refine ⟨k + 1, by omega, by go_num, Lib.hid ⟨?_, below_drewN ((H.out.2.setCell (by simp) _).setCell (by simp) _) 1⟩⟩
        refine (heap_setCell_same _ _ _ _ _ _ (heap_setCell_same _ _ _ _ _ _ H.out.1)).trans ?_
        rw [hv1, hv2, e1, e2, brw_set _ _ hlt]
      case measure => simp [intOf]; omega
    · obtain rfl : k = 16 := by omega
      have hi : (Tryd.prog.info? 36).map (·.size) = some (brw (bt x) 16).size := by rw [brw_size]; kernel_rfl
      have HI := Lib.hid hi; clear hi
      have H2 : wr.heap[w.heap.size + 1]? = some (.cells (brw (bt x) 0) 36 (0, 0)) := (H.out.2.block _ HR.out.2.2.2).trans HR.out.1
      have H3 := Lib.hid H2; clear H2
      go_wp2_with (first | (refine wpList_load_row rfl 36 _ rfl w1.heap.size rfl 36 _ (0, 0) _ H.out.1 Tryd.underlying36 rfl HI.out ?_) | (refine wpList_store_row rfl 36 _ _ rfl (w.heap.size + 1) (brw (bt x) 16) rfl rfl 36 (brw (bt x) 0) H3.out HI.out (by rw [brw_size, brw_size]) (brw_one _ _) ?_))
      refine bodyPost_ret (v := .agg (brw (bt x) 16)) (results_cell_row (p := 2) rfl _ _ (w.heap.size + 1) 36 _ (0, 0) _ rfl (setRow_heap _ _ _ _ _ _ H3.out) Tryd.underlying36 rfl HI.out) rfl ⟨by rw [brw_full], below_setRow (HR.out.2.1.trans (H.out.2.mono (by have := HR.out.2.2.2; omega))) (by omega) _⟩
end Go.Proofs.YthfadinocadhaaaDoor
namespace Go.Proofs.YthfadinocadhaaaDoor
open Go.RowKit

set_option maxRecDepth 100000 in
set_option maxHeartbeats 2000000 in
theorem byte_ref_walk (k x n : Nat) (w : World) (hN : ∀ w, Calls Tryd.prog 79 #[.agg (pw k)] w fun e w' => e = .returned (.int .i64 (n : Nat)) ∧ Below w.heap.size w w') :
    Calls Tryd.prog 36 #[.agg (pw k), .agg (pw x)] w fun e w' => e = .returned (.agg (if n ≤ 31 then #[.int .u64 (bt x n : Nat), .int .u64 0, .int .u64 0, .int .u64 0] else #[.int .u64 0, .int .u64 0, .int .u64 0, .int .u64 0])) ∧ Below w.heap.size w w' := by
  have hi : (Tryd.prog.info? 24).map (·.size) = some 4 := by kernel_rfl
  have HI4 := Lib.hid hi; clear hi
  have hi : (Tryd.prog.info? 36).map (·.size) = some (brow (bt x) 32).size := by rw [brow_size]; kernel_rfl
  have HI32 := Lib.hid hi; clear hi
  have HN := Lib.hid hN; clear hN
  by_cases hn : n ≤ 31
  · rw [if_pos hn]
    have hn1 : (n : Int) ≤ 31 := by omega
    have hn2 : (n : Int) < 32 := by omega
    have hn0 : (0 : Int) ≤ n := by omega
    go_enter Tryd.func36, Tryd.ntmps36
    go_wp2_with (refine wpList_load_row rfl 24 _ rfl w.heap.size rfl 24 (pw k) (0, 0) _ (heap3 _ _ _ _).1 Tryd.underlying24 rfl HI4.out ?_)
    refine (HN.out _).mono ?_
    rintro e w1 ⟨rfl, hb⟩
    have HX : Hid (w1.heap[w.heap.size + 1]? = some (.cells (pw x) 24 (0, 0)) ∧ w1.heap[w.heap.size + 1 + 1]? = some (.cells #[.int .u64 0, .int .u64 0, .int .u64 0, .int .u64 0] 24 (0, 0)) ∧ Below w.heap.size w w1) := Lib.hid ⟨(hb.block _ (by simp)).trans (heap3 _ _ _ _).2.1, (hb.block _ (by simp)).trans (heap3 _ _ _ _).2.2, Below.trans (by go_grown) (hb.mono (by simp; omega))⟩
    clear hb
    go_wp2_with (refine wpList_load_row rfl 24 _ rfl (w.heap.size + 1) rfl 24 (pw x) (0, 0) _ HX.out.1 Tryd.underlying24 rfl HI4.out ?_)
    refine (rbytes_walk x _).mono ?_
    rintro e w2 ⟨rfl, hb⟩
    have hs1 : w.heap.size + 1 + 1 < w1.heap.size := (Array.getElem?_eq_some_iff.1 HX.out.2.1).1
    have hs2 : w1.heap.size ≤ w2.heap.size := hb.size
    have HY : Hid (w2.heap[w.heap.size + 1 + 1]? = some (.cells #[.int .u64 0, .int .u64 0, .int .u64 0, .int .u64 0] 24 (0, 0)) ∧ Below w.heap.size w w2) := Lib.hid ⟨(hb.block _ hs1).trans HX.out.2.1, HX.out.2.2.trans (hb.mono (by omega))⟩
    clear hb HX
    have hbt := bt_le x n
    have hc : ((w2.alloc (.cells #[.int .u8 0, .int .u8 0, .int .u8 0, .int .u8 0, .int .u8 0, .int .u8 0, .int .u8 0, .int .u8 0, .int .u8 0, .int .u8 0, .int .u8 0, .int .u8 0, .int .u8 0, .int .u8 0, .int .u8 0, .int .u8 0, .int .u8 0, .int .u8 0, .int .u8 0, .int .u8 0, .int .u8 0, .int .u8 0, .int .u8 0, .int .u8 0, .int .u8 0, .int .u8 0, .int .u8 0, .int .u8 0, .int .u8 0, .int .u8 0, .int .u8 0, .int .u8 0] 36 (0, 0))).setRow w2.heap.size (brow (bt x) 32)).cell? ⟨w2.heap.size, n, none⟩ = some (.int .u8 (bt x n : Nat)) :=
      (cell_of_row _ _ n _ _ _ (setRow_heap _ _ _ _ _ _ (heap_alloc_new _ _))).trans (by rw [brow_at _ _ _ (by omega), if_pos (by omega)])
    have h5 : ((w2.alloc (.cells #[.int .u8 0, .int .u8 0, .int .u8 0, .int .u8 0, .int .u8 0, .int .u8 0, .int .u8 0, .int .u8 0, .int .u8 0, .int .u8 0, .int .u8 0, .int .u8 0, .int .u8 0, .int .u8 0, .int .u8 0, .int .u8 0, .int .u8 0, .int .u8 0, .int .u8 0, .int .u8 0, .int .u8 0, .int .u8 0, .int .u8 0, .int .u8 0, .int .u8 0, .int .u8 0, .int .u8 0, .int .u8 0, .int .u8 0, .int .u8 0, .int .u8 0, .int .u8 0] 36 (0, 0))).setRow w2.heap.size (brow (bt x) 32)).heap[w.heap.size + 1 + 1]? = some (.cells #[.int .u64 0, .int .u64 0, .int .u64 0, .int .u64 0] 24 (0, 0)) :=
      (setRow_other _ _ _ _ (by omega)).trans ((heap_alloc_old _ _ (by omega)).trans HY.out.1)
    have H5 := Lib.hid h5; clear h5
    go_wp2_with (first | (refine wpList_store_row rfl 36 _ _ rfl w2.heap.size (brow (bt x) 32) rfl rfl 36 #[.int .u8 0, .int .u8 0, .int .u8 0, .int .u8 0, .int .u8 0, .int .u8 0, .int .u8 0, .int .u8 0, .int .u8 0, .int .u8 0, .int .u8 0, .int .u8 0, .int .u8 0, .int .u8 0, .int .u8 0, .int .u8 0, .int .u8 0, .int .u8 0, .int .u8 0, .int .u8 0, .int .u8 0, .int .u8 0, .int .u8 0, .int .u8 0, .int .u8 0, .int .u8 0, .int .u8 0, .int .u8 0, .int .u8 0, .int .u8 0, .int .u8 0, .int .u8 0] (heap_alloc_new _ _) HI32.out (by rw [brow_size]; rfl) (brow_one _ _) ?_) | (refine wpList_store_row rfl 24 _ _ rfl (w.heap.size + 1 + 1) #[.int .u64 (bt x n : Nat), .int .u64 0, .int .u64 0, .int .u64 0] rfl rfl 24 #[.int .u64 0, .int .u64 0, .int .u64 0, .int .u64 0] H5.out HI4.out rfl (by simp [Value.oneCell']) ?_))
    (try simp only [Exit.inBlock, Exit.then])
    refine bodyPost_ret (v := .agg #[.int .u64 (bt x n : Nat), .int .u64 0, .int .u64 0, .int .u64 0]) (results_cell_row (p := 4) rfl _ _ (w.heap.size + 1 + 1) 24 _ (0, 0) _ rfl (setRow_heap _ _ _ _ _ _ H5.out) Tryd.underlying24 rfl HI4.out) rfl ⟨rfl, below_setRow (below_setRow (HY.out.2.trans (by go_grown)) (by omega) _) (by omega) _⟩
  · rw [if_neg hn]
    have hn1 : ¬ (n : Int) ≤ 31 := by omega
    have hn2 : (31 : Int) < n := by omega
    go_enter Tryd.func36, Tryd.ntmps36
    go_wp2_with (refine wpList_load_row rfl 24 _ rfl w.heap.size rfl 24 (pw k) (0, 0) _ (heap3 _ _ _ _).1 Tryd.underlying24 rfl HI4.out ?_)
    refine (HN.out _).mono ?_
    rintro e w1 ⟨rfl, hb⟩
    have HX : Hid (w1.heap[w.heap.size + 1 + 1]? = some (.cells #[.int .u64 0, .int .u64 0, .int .u64 0, .int .u64 0] 24 (0, 0)) ∧ Below w.heap.size w w1) := Lib.hid ⟨(hb.block _ (by simp)).trans (heap3 _ _ _ _).2.2, Below.trans (by go_grown) (hb.mono (by simp; omega))⟩
    clear hb
    go_wp2_with (refine wpList_store_row rfl 24 _ _ rfl (w.heap.size + 1 + 1) #[.int .u64 0, .int .u64 0, .int .u64 0, .int .u64 0] rfl rfl 24 #[.int .u64 0, .int .u64 0, .int .u64 0, .int .u64 0] HX.out.1 HI4.out rfl (by simp [Value.oneCell']) ?_)
    (try simp only [Exit.inBlock, Exit.then])
    refine bodyPost_ret (v := .agg #[.int .u64 0, .int .u64 0, .int .u64 0, .int .u64 0]) (results_cell_row (p := 4) rfl _ _ (w.heap.size + 1 + 1) 24 _ (0, 0) _ rfl (setRow_heap _ _ _ _ _ _ HX.out.1) Tryd.underlying24 rfl HI4.out) rfl ⟨rfl, below_setRow HX.out.2 (by omega) _⟩

theorem byte_ref (k x : Nat) (w : World) :
    Calls Tryd.prog 36 #[wv k, wv x] w fun e w' => e = .returned (wv (byteN k x)) ∧ Below w.heap.size w w' := by
  have h := byte_ref_walk k x _ w (fun w => num_any k w)
  refine h.mono ?_
  rintro e w' ⟨rfl, hb⟩
  refine ⟨?_, hb⟩
  unfold byteN
  generalize k % 115792089237316195423570985008687907853269984665640564039457584007913129639936 = q
  by_cases h1 : q ≤ 31
  · rw [if_pos h1, if_pos (by omega), wv_small (by have := bt_le x q; omega), show min q 256 = q by omega]
  · rw [if_neg h1, if_neg (by omega), wv_zero]
end Go.Proofs.YthfadinocadhaaaDoor
namespace Go.Proofs.YthfadinocadhaaaDoor
open Go.RowKit

theorem at3 (g : Nat) (w : World) : (Instr.indexAt 24 (.pointer (some ⟨g, 0, none⟩)) (.int .i64 3)).run Tryd.prog w = .ok (.pointer (some ⟨g, 3, none⟩)) w := by
  go_simp
theorem load_cell (g j y : Nat) (w : World) (h : w.cell? ⟨g, j, none⟩ = some (.int .u64 y)) : (Instr.loadAt 22 (.pointer (some ⟨g, j, none⟩))).run Tryd.prog w = .ok (.int .u64 y) w := by
  go_simp
theorem shr63 (y : Nat) (_h : y < 18446744073709551616) (w : World) : (binOp BinOp.shr 22 (.int .u64 y) (.int .u64 63)).run Tryd.prog w = .ok (.int .u64 ((y / 9223372036854775808 : Nat) : Int)) w := by
  go_simp
theorem shrg (y : Nat) (o1 o2 : Operand) (w : World) : (eqGuard BinOp.shr 22 o1 o2 (.int .u64 y) (.int .u64 63)).run Tryd.prog w = .ok () w := by kernel_rfl
theorem top_of (x : Nat) : pN x 3 / 9223372036854775808 = x % 115792089237316195423570985008687907853269984665640564039457584007913129639936 / 57896044618658097711785492504343953926634992332820282019728792003956564819968 := by unfold pN; omega

set_option maxRecDepth 100000 in
set_option maxHeartbeats 2000000 in
-- WHAT bailiwickref01.Sar COMES TO.
theorem sar_ref (k x : Nat) (w : World) :
    Calls Tryd.prog 42 #[.agg (pw k), .agg (pw x)] w fun e w' => e = .returned (wv (sarN (min (k % 115792089237316195423570985008687907853269984665640564039457584007913129639936) 256) (x % 115792089237316195423570985008687907853269984665640564039457584007913129639936))) ∧ Below w.heap.size w w' := by
  have hxl : x % 115792089237316195423570985008687907853269984665640564039457584007913129639936 < 115792089237316195423570985008687907853269984665640564039457584007913129639936 := Nat.mod_lt _ (by omega)
  go_enter Tryd.func42, Tryd.ntmps42
  go_wp2_with fail
  refine region_inv (CB w k x) (fun i v wx => match i with | 0 => v = wv x | 1 => v = wv k | 2 => v = .int .i64 ((min (k % 115792089237316195423570985008687907853269984665640564039457584007913129639936) 256 : Nat) : Int) | 3 => v = .pointer (some ⟨w.heap.size + 1, 3, none⟩) | 4 => v = .int .u64 (pN x 3 : Nat) | 5 => v = .int .u64 ((x % 115792089237316195423570985008687907853269984665640564039457584007913129639936 / 57896044618658097711785492504343953926634992332820282019728792003956564819968 : Nat) : Int) | 6 => v = wv (sarN (min (k % 115792089237316195423570985008687907853269984665640564039457584007913129639936) 256) (x % 115792089237316195423570985008687907853269984665640564039457584007913129639936)) | 7 => wx.heap[(w.heap.size + 1 + 1)]? = some (.cells (pw (sarN (min (k % 115792089237316195423570985008687907853269984665640564039457584007913129639936) 256) (x % 115792089237316195423570985008687907853269984665640564039457584007913129639936))) 24 (0, 0)) | _ => True) (Rs (w.heap.size + 1 + 1) (sarN (min (k % 115792089237316195423570985008687907853269984665640564039457584007913129639936) 256) (x % 115792089237316195423570985008687907853269984665640564039457584007913129639936))) (by kernel_rfl) (by kernel_rfl) ?_ ?_ ?_ ?_
  · exact ⟨by go_grown, (heap3 _ _ _ _).1, (heap3 _ _ _ _).2.1, _, rfl, (heap3 _ _ _ _).2.2⟩
  · intro i v wa wb hR h
    match i, h with
    | 0, h => exact h
    | 1, h => exact h
    | 2, h => exact h
    | 3, h => exact h
    | 4, h => exact h
    | 5, h => exact h
    | 6, h => exact h
    | 7, h => exact hR.2 h
    | _ + 8, _ => trivial
  · refine ⟨fun a wx hC hK => ?_, fun a wx hC hK => ?_, fun a wx hC hK => ?_, fun a wx hC hK => ?_, fun a wx hC hK => ?_, fun a wx hC hK => ?_, fun a wx hC hK => ?_, fun a wx hC hK => ?_, trivial⟩
    · exact st_load 24 (.tmp 3) (.pointer (some ⟨w.heap.size + 1, 0, none⟩)) (wv x) rfl (by kernel_rfl) (fun h => by cases h) (hK.1 3 (by kernel_rfl)) (load_pw hC.2.2.1) hC rfl (Rs.refl _ _ _)
    · exact st_load 24 (.tmp 2) (.pointer (some ⟨w.heap.size, 0, none⟩)) (wv k) rfl (by kernel_rfl) (fun h => by cases h) (hK.1 2 (by kernel_rfl)) (load_pw hC.2.1) hC rfl (Rs.refl _ _ _)
    · have h0 : a.tmps.getD 6 undef = wv k := hK.2 ⟨1, .data⟩ (by simp) rfl _ rfl
      refine st_call 79 #[a.tmps.getD 6 undef] (by kernel_rfl) ⟨_, rfl⟩ (by kernel_rfl) ?_
      rw [h0]
      exact (num_any k wx).mono fun e w' h => ⟨_, h.1, hC.below h.2, rfl, Rs.of hC.lt h.2⟩
    · have h0 : a.tmps.getD 3 undef = .pointer (some ⟨w.heap.size + 1, 0, none⟩) := hK.1 3 (by kernel_rfl)
      refine st_val (.pointer (some ⟨w.heap.size + 1, 3, none⟩)) (by kernel_rfl) (fun h => by cases h) ?_ hC rfl (Rs.refl _ _ _)
      show (do let v ← Instr.indexAt 24 (a.tmps.getD 3 undef) (.int .i64 3); pure (Next.value v) : Sem Next).run Tryd.prog wx = _
      rw [h0]
      simp only [Sem.run_bind, at3, Result.andThen_ok, Sem.run_pure]
    · have h0 : a.tmps.getD 8 undef = .pointer (some ⟨w.heap.size + 1, 3, none⟩) := hK.2 ⟨3, .data⟩ (by simp) rfl _ rfl
      exact st_load 22 (.tmp 8) (.pointer (some ⟨w.heap.size + 1, 3, none⟩)) (.int .u64 (pN x 3 : Nat)) rfl (by kernel_rfl) (fun h => by cases h) h0 (load_cell _ _ _ _ ((cell_of_row _ _ 3 _ _ _ hC.2.2.1).trans (pw_at x 3 (by omega)))) hC rfl (Rs.refl _ _ _)
    · have h0 : a.tmps.getD 9 undef = .int .u64 (pN x 3 : Nat) := hK.2 ⟨4, .data⟩ (by simp) rfl _ rfl
      refine st_val (.int .u64 ((x % 115792089237316195423570985008687907853269984665640564039457584007913129639936 / 57896044618658097711785492504343953926634992332820282019728792003956564819968 : Nat) : Int)) (by kernel_rfl) (fun h => by cases h) ?_ hC rfl (Rs.refl _ _ _)
      show (do let v ← (do eqGuard .shr 22 (.tmp 9) (.const (.int .u64 63)) (a.tmps.getD 9 undef) (.int .u64 63); binOp .shr 22 (a.tmps.getD 9 undef) (.int .u64 63)); pure (Next.value v) : Sem Next).run Tryd.prog wx = _
      rw [h0, ← top_of]
      simp only [Sem.run_bind, shrg, shr63 _ (pN_le x 3), Result.andThen_ok, Sem.run_pure]
    · have h0 : a.tmps.getD 5 undef = wv x := hK.2 ⟨0, .data⟩ (by simp) rfl _ rfl
      have h1 : a.tmps.getD 7 undef = .int .i64 ((min (k % 115792089237316195423570985008687907853269984665640564039457584007913129639936) 256 : Nat) : Int) := hK.2 ⟨2, .data⟩ (by simp) rfl _ rfl
      have h2 : a.tmps.getD 10 undef = .int .u64 ((x % 115792089237316195423570985008687907853269984665640564039457584007913129639936 / 57896044618658097711785492504343953926634992332820282019728792003956564819968 : Nat) : Int) := hK.2 ⟨5, .data⟩ (by simp) rfl _ rfl
      refine st_call 82 #[a.tmps.getD 5 undef, a.tmps.getD 7 undef, a.tmps.getD 10 undef] (by kernel_rfl) ⟨_, rfl⟩ (by kernel_rfl) ?_
      rw [h0, h1, h2]
      have hp := pick_any x (x % 115792089237316195423570985008687907853269984665640564039457584007913129639936 / 57896044618658097711785492504343953926634992332820282019728792003956564819968) ((min (k % 115792089237316195423570985008687907853269984665640564039457584007913129639936) 256 : Nat) : Int) (by omega) (by omega) (by omega) wx
      rw [vb_sar] at hp
      exact hp.mono fun e w' h => ⟨_, h.1, hC.below h.2, rfl, Rs.of hC.lt h.2⟩
    · have h0 : a.tmps.getD 11 undef = wv (sarN (min (k % 115792089237316195423570985008687907853269984665640564039457584007913129639936) 256) (x % 115792089237316195423570985008687907853269984665640564039457584007913129639936)) := hK.2 ⟨6, .data⟩ (by simp) rfl _ rfl
      obtain ⟨-, -, -, cs, hcs, hrow⟩ := id hC
      exact st_store (by kernel_rfl) (run_store 24 (.tmp 4) (.tmp 11) _ _ rfl (hK.1 4 (by kernel_rfl)) h0 (store_pw hcs hrow)) (hC.row _ rfl) (setRow_heap _ _ _ _ _ _ hrow) (Rs.row hrow)
  · intro f wx hC hf
    have h6 : wx.heap[(w.heap.size + 1 + 1)]? = some (.cells (pw (sarN (min (k % 115792089237316195423570985008687907853269984665640564039457584007913129639936) 256) (x % 115792089237316195423570985008687907853269984665640564039457584007913129639936))) 24 (0, 0)) := hf 7 _ rfl
    generalize hA : putAll _ _ _ = A
    have h4 : A.tmps.getD 4 undef = Value.pointer (some ⟨(w.heap.size + 1 + 1), 0, none⟩) := by subst hA; kernel_rfl
    have hd : A.defers = [] := by subst hA; kernel_rfl
    clear hA hf
    go_wp2
    (try simp only [Exit.inBlock, Exit.then])
    exact bodyPost_ret (v := .agg (pw (sarN (min (k % 115792089237316195423570985008687907853269984665640564039457584007913129639936) 256) (x % 115792089237316195423570985008687907853269984665640564039457584007913129639936)))) (results_cell_row (p := 4) rfl _ _ (w.heap.size + 1 + 1) 24 _ (0, 0) _ h4 h6 Tryd.underlying24 rfl infoWord) hd ⟨rfl, hC.1⟩

/-- How many bits the lowest k bits have. -/
def bl (x : Nat) : Nat → Nat
  | 0 => 0
  | k + 1 => if x % 115792089237316195423570985008687907853269984665640564039457584007913129639936 / 2 ^ k % 2 = 1 then k + 1 else bl x k
theorem bl_le (x : Nat) : ∀ k, bl x k ≤ k
  | 0 => Nat.le_refl _
  | k + 1 => by have := bl_le x k; unfold bl; split <;> omega
theorem bl_spec (x : Nat) : ∀ k, x % 115792089237316195423570985008687907853269984665640564039457584007913129639936 % 2 ^ k < 2 ^ bl x k ∧ (bl x k = 0 ∨ 2 ^ (bl x k - 1) ≤ x % 115792089237316195423570985008687907853269984665640564039457584007913129639936 % 2 ^ k)
  | 0 => by simp [bl, Nat.mod_one]
  | k + 1 => by
    obtain ⟨h1, h2⟩ := bl_spec x k
    have e : x % 115792089237316195423570985008687907853269984665640564039457584007913129639936 % 2 ^ (k + 1) = x % 115792089237316195423570985008687907853269984665640564039457584007913129639936 % 2 ^ k + 2 ^ k * (x % 115792089237316195423570985008687907853269984665640564039457584007913129639936 / 2 ^ k % 2) := by rw [Nat.pow_succ, Nat.mod_mul]
    have hm : x % 115792089237316195423570985008687907853269984665640564039457584007913129639936 % 2 ^ k < 2 ^ k := Nat.mod_lt _ (Nat.two_pow_pos k)
    rw [e]
    unfold bl
    by_cases hb : x % 115792089237316195423570985008687907853269984665640564039457584007913129639936 / 2 ^ k % 2 = 1
    · rw [if_pos hb, hb, Nat.pow_succ, Nat.add_sub_cancel]
      exact ⟨by omega, .inr (by omega)⟩
    · rw [if_neg hb, show x % 115792089237316195423570985008687907853269984665640564039457584007913129639936 / 2 ^ k % 2 = 0 by omega, Nat.mul_zero, Nat.add_zero]
      exact ⟨h1, h2⟩
theorem len_uniq {X a b : Nat} (h1 : X < 2 ^ a) (h2 : a = 0 ∨ 2 ^ (a - 1) ≤ X) (h3 : X < 2 ^ b) (h4 : b = 0 ∨ 2 ^ (b - 1) ≤ X) : a = b := by
  rcases Nat.lt_trichotomy a b with h | h | h
  · rcases h4 with h4 | h4
    · omega
    · have := Nat.pow_le_pow_right (n := 2) (by omega) (show a ≤ b - 1 by omega)
      omega
  · exact h
  · rcases h2 with h2 | h2
    · omega
    · have := Nat.pow_le_pow_right (n := 2) (by omega) (show b ≤ a - 1 by omega)
      omega

set_option maxRecDepth 100000 in
set_option maxHeartbeats 2000000 in
-- WHAT bailiwickref01.Len COMES TO.
theorem len_ref (x : Nat) (w : World) : Calls Tryd.prog 46 #[wv x] w fun e w' => e = .returned (.int .i64 (bl x 256 : Nat)) ∧ Below w.heap.size w w' := by
  rw [wv_pw]
  have HB := Lib.hid (fun (i : Nat) (hi : i < 256) (w : World) => bit_ref x i hi w)
  have hi : (Tryd.prog.info? 24).map (·.size) = some 4 := by kernel_rfl
  have HI := Lib.hid hi; clear hi
  go_enter Tryd.func46, Tryd.ntmps46
  go_wp2
  go_loopw [3, 4] (fun nv iv wr => ∃ k : Nat, k ≤ 256 ∧ iv = .int .i64 k ∧ nv = .int .i64 (bl x k : Nat) ∧ Hid (wr.heap[w.heap.size]? = some (.cells (pw x) 24 (0, 0)) ∧ Below w.heap.size w wr)) (fun _ iv _ => 256 - (intOf iv).toNat)
  case atStart => exact ⟨0, by omega, rfl, rfl, Lib.hid ⟨heap_alloc_new _ _, by go_grown⟩⟩
  case round =>
    obtain ⟨k, hk, rfl, rfl, H⟩ := hrel
    have hk0 : (0 : Int) ≤ k := by omega
    have hk1 : (k : Int) ≤ 256 := by omega
    by_cases hlt : k < 256
    · have hlt' : (k : Int) < 256 := by omega
      have hB := HB.out k hlt
      have hs : bl x (k + 1) = if x % 115792089237316195423570985008687907853269984665640564039457584007913129639936 / 2 ^ k % 2 = 1 then k + 1 else bl x k := rfl
      have hbl := bl_le x k
      have HS := Lib.hid hs; clear hs
      have HBL := Lib.hid hbl; clear hbl
      have hsz : w.heap.size < wr.heap.size := (Array.getElem?_eq_some_iff.1 H.out.1).1
      generalize bl x k = b0 at *
      by_cases hb1 : x % 115792089237316195423570985008687907853269984665640564039457584007913129639936 / 2 ^ k % 2 = 1
      · rw [hb1] at hB
        rw [if_pos hb1] at HS
        have HB2 := Lib.hid hB; clear hB
        clear hb1
        go_wp2_with (refine wpList_load_row rfl 24 _ rfl w.heap.size rfl 24 (pw x) (0, 0) _ H.out.1 Tryd.underlying24 rfl HI.out ?_)
        refine (HB2.out _).mono ?_
        rintro e w1 ⟨rfl, hb⟩
        have HN : Hid (w1.heap[w.heap.size]? = some (.cells (pw x) 24 (0, 0)) ∧ Below w.heap.size w w1) := Lib.hid ⟨(hb.block _ hsz).trans H.out.1, H.out.2.trans (hb.mono H.out.2.size)⟩
        clear hb
        go_wp2
        go_roundw
        case rel => exact ⟨k + 1, by omega, by go_num, by rw [HS.out]; go_num, HN⟩
        case measure => simp [intOf]; omega
      · rw [show x % 115792089237316195423570985008687907853269984665640564039457584007913129639936 / 2 ^ k % 2 = 0 by omega] at hB
        rw [if_neg hb1] at HS
        have HB2 := Lib.hid hB; clear hB
        clear hb1
        go_wp2_with (refine wpList_load_row rfl 24 _ rfl w.heap.size rfl 24 (pw x) (0, 0) _ H.out.1 Tryd.underlying24 rfl HI.out ?_)
        refine (HB2.out _).mono ?_
        rintro e w1 ⟨rfl, hb⟩
        have HN : Hid (w1.heap[w.heap.size]? = some (.cells (pw x) 24 (0, 0)) ∧ Below w.heap.size w w1) := Lib.hid ⟨(hb.block _ hsz).trans H.out.1, H.out.2.trans (hb.mono H.out.2.size)⟩
        clear hb
        go_wp2
        go_roundw
        case rel => exact ⟨k + 1, by omega, by go_num, by rw [HS.out], HN⟩
        case measure => simp [intOf]; omega
    · obtain rfl : k = 256 := by omega
      go_wp2
      go_ret
      exact ⟨rfl, H.out.2⟩

-- WHAT Len COMES TO: just as many bits.
theorem len_exact (y : Nat) (w : World) : Calls Tryd.prog 45 #[wv y] w fun e w' => e = .returned (.int .i64 (bl y 256 : Nat)) ∧ Below w.heap.size w w' := by
  obtain ⟨a0, a1, a2, a3, u0, u1, u2, u3, ea, na⟩ := wv_parts y
  obtain ⟨s1, s2⟩ := bl_spec y 256
  rw [show (2 : Nat) ^ 256 = 115792089237316195423570985008687907853269984665640564039457584007913129639936 by rfl, Nat.mod_mod, ← na] at s1 s2
  generalize bl y 256 = B at *
  rw [ea]
  clear ea na
  by_cases h3 : a3 = 0
  · subst h3
    by_cases h2 : a2 = 0
    · subst h2
      by_cases h1 : a1 = 0
      · subst h1
        by_cases h0 : a0 = 0
        · subst h0
          have e : B = 0 := len_uniq s1 s2 (by decide) (.inl rfl)
          rw [e]
          exact len_0 w
        · obtain ⟨l0, l1, l2⟩ := bitLen_bounds a0 u0 h0
          have e : B = Lib.bitLen a0 := len_uniq s1 s2 (by unfold n4; omega) (.inr (by unfold n4; omega))
          rw [e]
          exact len_1 a0 (by rw [bne_iff_ne]; omega) (by omega) w
      · obtain ⟨l0, l1, l2⟩ := bitLen_bounds a1 u1 h1
        have e : B = 64 + Lib.bitLen a1 := len_uniq s1 s2 (by rw [Nat.pow_add, show (2 : Nat) ^ 64 = 18446744073709551616 by rfl]; unfold n4; omega) (.inr (by rw [show 64 + Lib.bitLen a1 - 1 = 64 + (Lib.bitLen a1 - 1) by omega, Nat.pow_add, show (2 : Nat) ^ 64 = 18446744073709551616 by rfl]; unfold n4; omega))
        rw [e, show ((64 + Lib.bitLen a1 : Nat) : Int) = 64 + (Lib.bitLen a1 : Nat) by simp]
        exact len_2 a0 a1 (by rw [bne_iff_ne]; omega) (by omega) w
    · obtain ⟨l0, l1, l2⟩ := bitLen_bounds a2 u2 h2
      have e : B = 128 + Lib.bitLen a2 := len_uniq s1 s2 (by rw [Nat.pow_add, show (2 : Nat) ^ 128 = 340282366920938463463374607431768211456 by rfl]; unfold n4; omega) (.inr (by rw [show 128 + Lib.bitLen a2 - 1 = 128 + (Lib.bitLen a2 - 1) by omega, Nat.pow_add, show (2 : Nat) ^ 128 = 340282366920938463463374607431768211456 by rfl]; unfold n4; omega))
      rw [e, show ((128 + Lib.bitLen a2 : Nat) : Int) = 128 + (Lib.bitLen a2 : Nat) by simp]
      exact len_3 a0 a1 a2 (by rw [bne_iff_ne]; omega) (by omega) w
  · obtain ⟨l0, l1, l2⟩ := bitLen_bounds a3 u3 h3
    have e : B = 192 + Lib.bitLen a3 := len_uniq s1 s2 (by rw [Nat.pow_add, show (2 : Nat) ^ 192 = 6277101735386680763835789423207666416102355444464034512896 by rfl]; unfold n4; omega) (.inr (by rw [show 192 + Lib.bitLen a3 - 1 = 192 + (Lib.bitLen a3 - 1) by omega, Nat.pow_add, show (2 : Nat) ^ 192 = 6277101735386680763835789423207666416102355444464034512896 by rfl]; unfold n4; omega))
    rw [e, show ((192 + Lib.bitLen a3 : Nat) : Int) = 192 + (Lib.bitLen a3 : Nat) by simp]
    exact len_4 a0 a1 a2 a3 (by rw [bne_iff_ne]; omega) (by omega) w
end Go.Proofs.YthfadinocadhaaaDoor
namespace Go.Proofs.YthfadinocadhaaaDoor
open Go.RowKit

/-- The number of the first k bytes. -/
def yN (x k : Nat) : Nat := x % 115792089237316195423570985008687907853269984665640564039457584007913129639936 / 256 ^ (32 - k)
theorem yN_zero (x : Nat) : yN x 0 = 0 := by
  unfold yN
  exact Nat.div_eq_of_lt (Nat.lt_of_lt_of_le (Nat.mod_lt _ (by omega)) (by decide))
theorem yN_full (x : Nat) : wv (yN x 32) = wv x := by
  unfold yN
  exact wv_congr (by simp)
theorem yN_succ (x k : Nat) (h : k < 32) : yN x k * 256 + byteN k x = yN x (k + 1) := by
  unfold yN byteN
  rw [Nat.mod_eq_of_lt (show k < 115792089237316195423570985008687907853269984665640564039457584007913129639936 by omega), if_pos (by omega)]
  unfold bt
  have e : 32 - k = (31 - k) + 1 := by omega
  rw [show 32 - (k + 1) = 31 - k by omega, e, Nat.pow_succ, ← Nat.div_div_eq_div_mul]
  generalize x % 115792089237316195423570985008687907853269984665640564039457584007913129639936 / 256 ^ (31 - k) = Y
  omega

theorem hfz4 (W : World) (o : Obj) {B : Nat} (h : Free4 B W) (hB : B < W.heap.size) : Free4 B (W.alloc o) :=
  ⟨(World.frozen?_alloc_old _ _ _ (Nat.ne_of_lt hB)).trans h.1, (World.frozen?_alloc_old _ _ _ (Nat.ne_of_lt hB)).trans h.2.1, (World.frozen?_alloc_old _ _ _ (Nat.ne_of_lt hB)).trans h.2.2.1, (World.frozen?_alloc_old _ _ _ (Nat.ne_of_lt hB)).trans h.2.2.2⟩

set_option maxRecDepth 100000 in
set_option maxHeartbeats 4000000 in
theorem signs_walk (x k0 k1 k2 k3 a0 a1 a2 a3 s0 s1 s2 s3 : Nat) (Vk Va Vs Vn Vm : Value) (w : World)
    (ek : Vk = .agg #[.int .u64 k0, .int .u64 k1, .int .u64 k2, .int .u64 k3]) (ea : Va = .agg #[.int .u64 a0, .int .u64 a1, .int .u64 a2, .int .u64 a3]) (es : Vs = .agg #[.int .u64 s0, .int .u64 s1, .int .u64 s2, .int .u64 s3]) (ex : wv x = Va)
    (hs0 : ∀ w, Calls Tryd.prog 33 #[.agg #[.int .u64 k0, .int .u64 k1, .int .u64 k2, .int .u64 k3], .agg #[.int .u64 a0, .int .u64 a1, .int .u64 a2, .int .u64 a3]] w fun e w' => e = .returned (.agg #[.int .u64 s0, .int .u64 s1, .int .u64 s2, .int .u64 s3]) ∧ Below w.heap.size w w')
    (hs1 : ∀ w, Calls Tryd.prog 33 #[Vk, Vs] w fun e w' => e = .returned Vs ∧ Below w.heap.size w w')
    (hn1 : ∀ w, Calls Tryd.prog 43 #[Va] w fun e w' => e = .returned Vn ∧ Below w.heap.size w w')
    (hn2 : ∀ w, Calls Tryd.prog 43 #[Vn] w fun e w' => e = .returned Va ∧ Below w.heap.size w w')
    (hn3 : ∀ w, Calls Tryd.prog 43 #[.agg #[.int .u64 0, .int .u64 0, .int .u64 0, .int .u64 0]] w fun e w' => e = .returned Vm ∧ Below w.heap.size w w')
    (had : ∀ w, Calls Tryd.prog 13 #[Va, Vn] w fun e w' => e = .returned Vm ∧ Below w.heap.size w w')
    (hqs : ∀ w, (binOp BinOp.neq 24 Vs Vs).run Tryd.prog w = .ok (.bool false) w) (hgs : ∀ o1 o2 w, (eqGuard BinOp.neq 24 o1 o2 Vs Vs).run Tryd.prog w = .ok () w)
    (hqa : ∀ w, (binOp BinOp.eql 24 Va Va).run Tryd.prog w = .ok (.bool true) w) (hga : ∀ o1 o2 w, (eqGuard BinOp.eql 24 o1 o2 Va Va).run Tryd.prog w = .ok () w)
    (hqm : ∀ w, (binOp BinOp.eql 24 Vm Vm).run Tryd.prog w = .ok (.bool true) w) (hgm : ∀ o1 o2 w, (eqGuard BinOp.eql 24 o1 o2 Vm Vm).run Tryd.prog w = .ok () w)
    (hlv : ∀ w, Calls Tryd.prog 19 #[] w fun e w' => e = .returned (.bool true) ∧ Below w.heap.size w w') :
    Calls Tryd.prog 12 #[.agg #[.int .u64 k0, .int .u64 k1, .int .u64 k2, .int .u64 k3], .agg #[.int .u64 a0, .int .u64 a1, .int .u64 a2, .int .u64 a3]] w fun e w' => e = .returned (.bool true) ∧ Below w.heap.size w w' := by
  have Hs0 := Lib.hid hs0; clear hs0
  have Hs1 := Lib.hid hs1; clear hs1
  have Hn1 := Lib.hid hn1; clear hn1
  have Hn2 := Lib.hid hn2; clear hn2
  have Hn3 := Lib.hid hn3; clear hn3
  have Had := Lib.hid had; clear had
  have Hqs := Lib.hid hqs; clear hqs
  have Hgs := Lib.hid hgs; clear hgs
  have Hqa := Lib.hid hqa; clear hqa
  have Hga := Lib.hid hga; clear hga
  have Hqm := Lib.hid hqm; clear hqm
  have Hgm := Lib.hid hgm; clear hgm
  have Hlv := Lib.hid hlv; clear hlv
  have Ek := Lib.hid ek; clear ek
  have Ea := Lib.hid ea; clear ea
  have Es := Lib.hid es; clear es
  have Ex := Lib.hid ex; clear ex
  go_enter Tryd.func12, Tryd.ntmps12
  go_wp2_with fail
  refine (Hs0.out _).mono ?_
  rintro e w1 ⟨rfl, hb⟩
  obtain ⟨kc0, -, -⟩ := after1 (b := w.heap.size) (i := 0) (v := .int .u64 k0) hb (by first | (simp; done) | (simp; omega)) (by go_cell) (by go_cell)
  obtain ⟨kc1, -, -⟩ := after1 (b := w.heap.size) (i := 1) (v := .int .u64 k1) hb (by first | (simp; done) | (simp; omega)) (by go_cell) (by go_cell)
  obtain ⟨kc2, -, -⟩ := after1 (b := w.heap.size) (i := 2) (v := .int .u64 k2) hb (by first | (simp; done) | (simp; omega)) (by go_cell) (by go_cell)
  obtain ⟨kc3, -, -⟩ := after1 (b := w.heap.size) (i := 3) (v := .int .u64 k3) hb (by first | (simp; done) | (simp; omega)) (by go_cell) (by go_cell)
  obtain ⟨ac0, -, -⟩ := after1 (b := w.heap.size + 1) (i := 0) (v := .int .u64 a0) hb (by first | (simp; done) | (simp; omega)) (by go_cell) (by go_cell)
  obtain ⟨ac1, -, -⟩ := after1 (b := w.heap.size + 1) (i := 1) (v := .int .u64 a1) hb (by first | (simp; done) | (simp; omega)) (by go_cell) (by go_cell)
  obtain ⟨ac2, -, -⟩ := after1 (b := w.heap.size + 1) (i := 2) (v := .int .u64 a2) hb (by first | (simp; done) | (simp; omega)) (by go_cell) (by go_cell)
  obtain ⟨ac3, -, -⟩ := after1 (b := w.heap.size + 1) (i := 3) (v := .int .u64 a3) hb (by first | (simp; done) | (simp; omega)) (by go_cell) (by go_cell)
  have z1 : w.heap.size + 1 < w1.heap.size := by have h := hb.size; simp at h; omega
  have hB1 : Below w.heap.size w w1 := Below.trans (by go_grown) (hb.mono (by simp; omega))
  clear hb
  have z2 : w.heap.size < w1.heap.size := by omega
  have hcl : (ClG w w1.heap.size (fun wx => Holds4 (w.heap.size) (.int .u64 k0) (.int .u64 k1) (.int .u64 k2) (.int .u64 k3) wx ∧ Holds4 (w.heap.size + 1) (.int .u64 a0) (.int .u64 a1) (.int .u64 a2) (.int .u64 a3) wx ∧ Holds4 (w1.heap.size) (.int .u64 s0) (.int .u64 s1) (.int .u64 s2) (.int .u64 s3) wx)) (w1.alloc (.cells #[.int .u64 s0, .int .u64 s1, .int .u64 s2, .int .u64 s3] 24)) := ⟨(by go_grown), (by simp), ⟨by go_cell, by go_cell, by go_cell, by go_cell⟩, ⟨by go_cell, by go_cell, by go_cell, by go_cell⟩, ⟨by go_cell, by go_cell, by go_cell, by go_cell⟩⟩
  have hkeep : ∀ wx w', w1.heap.size < wx.heap.size → Below wx.heap.size wx w' → (fun wx => Holds4 (w.heap.size) (.int .u64 k0) (.int .u64 k1) (.int .u64 k2) (.int .u64 k3) wx ∧ Holds4 (w.heap.size + 1) (.int .u64 a0) (.int .u64 a1) (.int .u64 a2) (.int .u64 a3) wx ∧ Holds4 (w1.heap.size) (.int .u64 s0) (.int .u64 s1) (.int .u64 s2) (.int .u64 s3) wx) wx → (fun wx => Holds4 (w.heap.size) (.int .u64 k0) (.int .u64 k1) (.int .u64 k2) (.int .u64 k3) wx ∧ Holds4 (w.heap.size + 1) (.int .u64 a0) (.int .u64 a1) (.int .u64 a2) (.int .u64 a3) wx ∧ Holds4 (w1.heap.size) (.int .u64 s0) (.int .u64 s1) (.int .u64 s2) (.int .u64 s3) wx) w' := fun wx w' ht hb ⟨h1, h2, h3⟩ => ⟨h1.below hb (by omega), h2.below hb (by omega), h3.below hb (by omega)⟩
  have H1 := Lib.hid (fun wx (hC : (ClG w w1.heap.size (fun wx => Holds4 (w.heap.size) (.int .u64 k0) (.int .u64 k1) (.int .u64 k2) (.int .u64 k3) wx ∧ Holds4 (w.heap.size + 1) (.int .u64 a0) (.int .u64 a1) (.int .u64 a2) (.int .u64 a3) wx ∧ Holds4 (w1.heap.size) (.int .u64 s0) (.int .u64 s1) (.int .u64 s2) (.int .u64 s3) wx)) wx) => (show (Instr.loadAt 24 (.pointer (some ⟨w.heap.size, 0, none⟩))).run Tryd.prog wx = .ok Vk wx by rw [Ek.out]; exact load4 _ hC.2.2.1))
  have H2 := Lib.hid (fun wx (hC : (ClG w w1.heap.size (fun wx => Holds4 (w.heap.size) (.int .u64 k0) (.int .u64 k1) (.int .u64 k2) (.int .u64 k3) wx ∧ Holds4 (w.heap.size + 1) (.int .u64 a0) (.int .u64 a1) (.int .u64 a2) (.int .u64 a3) wx ∧ Holds4 (w1.heap.size) (.int .u64 s0) (.int .u64 s1) (.int .u64 s2) (.int .u64 s3) wx)) wx) => (show (Instr.loadAt 24 (.pointer (some ⟨w1.heap.size, 0, none⟩))).run Tryd.prog wx = .ok Vs wx by rw [Es.out]; exact load4 _ hC.2.2.2.2))
  have H3 := Lib.hid (fun wx (hC : (ClG w w1.heap.size (fun wx => Holds4 (w.heap.size) (.int .u64 k0) (.int .u64 k1) (.int .u64 k2) (.int .u64 k3) wx ∧ Holds4 (w.heap.size + 1) (.int .u64 a0) (.int .u64 a1) (.int .u64 a2) (.int .u64 a3) wx ∧ Holds4 (w1.heap.size) (.int .u64 s0) (.int .u64 s1) (.int .u64 s2) (.int .u64 s3) wx)) wx) => (show Calls Tryd.prog 33 #[Vk, Vs] wx fun e w' => e = .returned Vs ∧ (ClG w w1.heap.size (fun wx => Holds4 (w.heap.size) (.int .u64 k0) (.int .u64 k1) (.int .u64 k2) (.int .u64 k3) wx ∧ Holds4 (w.heap.size + 1) (.int .u64 a0) (.int .u64 a1) (.int .u64 a2) (.int .u64 a3) wx ∧ Holds4 (w1.heap.size) (.int .u64 s0) (.int .u64 s1) (.int .u64 s2) (.int .u64 s3) wx)) w' from (Hs1.out wx).mono fun _ _ h => ⟨h.1, hC.below hkeep h.2⟩))
  have HCL := Lib.hid hcl; clear hcl
  have Z1 := Lib.hid z1
  clear hB1 kc0 kc1 kc2 kc3 ac0 ac1 ac2 ac3 z1 z2 hkeep
  go_wp2_with fail
  refine wp_region_quiet (C := (ClG w w1.heap.size (fun wx => Holds4 (w.heap.size) (.int .u64 k0) (.int .u64 k1) (.int .u64 k2) (.int .u64 k3) wx ∧ Holds4 (w.heap.size + 1) (.int .u64 a0) (.int .u64 a1) (.int .u64 a2) (.int .u64 a3) wx ∧ Holds4 (w1.heap.size) (.int .u64 s0) (.int .u64 s1) (.int .u64 s2) (.int .u64 s3) wx))) (by kernel_rfl) (by kernel_rfl) (HCL.out.drew (fun _ h => h)) ?_
  with_reducible refine q_load 24 (.tmp 2) (.pointer (some ⟨w.heap.size, 0, none⟩)) (Vk) rfl (by kernel_rfl) (by kernel_rfl) H1.out ?_
  with_reducible refine q_load 24 (.tmp 5) (.pointer (some ⟨w1.heap.size, 0, none⟩)) (Vs) rfl (by kernel_rfl) (by kernel_rfl) H2.out ?_
  with_reducible refine q_call 33 #[Vk, Vs] (Vs) (by kernel_rfl) (fun _ => by kernel_rfl) H3.out ?_
  with_reducible refine q_load 24 (.tmp 5) (.pointer (some ⟨w1.heap.size, 0, none⟩)) (Vs) rfl (by kernel_rfl) (by kernel_rfl) H2.out ?_
  with_reducible refine q_bin .neq 24 _ _ 24 (Vs) (Vs) (.bool false) rfl (by kernel_rfl) (by kernel_rfl) (by kernel_rfl) (Hgs.out _ _) Hqs.out ?_
  with_reducible refine wpQuiet_nil ?_
  intro w2 hC
  have HX := Lib.hid hC; clear hC HCL H1 H2 H3
  go_simp
  go_wp2
  go_loopw [7] (fun i wr => ∃ n : Nat, n ≤ 32 ∧ i = .int .u64 n ∧ Hid (∃ b0 b1 b2 b3 : Nat, wv (yN x n) = .agg #[.int .u64 b0, .int .u64 b1, .int .u64 b2, .int .u64 b3] ∧ (ClG w w2.heap.size (fun wx => Holds4 (w.heap.size + 1) (.int .u64 a0) (.int .u64 a1) (.int .u64 a2) (.int .u64 a3) wx ∧ (Holds4 (w2.heap.size) (.int .u64 b0) (.int .u64 b1) (.int .u64 b2) (.int .u64 b3) wx ∧ Free4 w2.heap.size wx))) wr)) (fun i _ => 32 - (intOf i).toNat)
  case atStart =>
    refine ⟨0, by omega, rfl, Lib.hid ⟨0, 0, 0, 0, by rw [yN_zero]; exact wv_zero, ?_⟩⟩
    have h := HX.out
    have z1 : w.heap.size + 1 < w2.heap.size := by have := h.2.1; have := Z1.out; omega
    obtain ⟨hB, -, -, ⟨ac0, ac1, ac2, ac3⟩, -⟩ := h
    exact ⟨by go_grown, by simp, ⟨by go_cell, by go_cell, by go_cell, by go_cell⟩, ⟨by go_cell, by go_cell, by go_cell, by go_cell⟩, by go_cell, by go_cell, by go_cell, by go_cell⟩
  case round =>
    obtain ⟨n, hn, rfl, H⟩ := hrel
    have hn0 : (0 : Int) ≤ n := by omega
    have hn1 : (n : Int) ≤ 32 := by omega
    have Z6 := Lib.hid (show w.heap.size + 1 < w2.heap.size by have := HX.out.2.1; have := Z1.out; omega)
    obtain ⟨b0, b1, b2, b3, eb, hC⟩ := H.out
    clear H
    have hkeep : ∀ wx w', w2.heap.size < wx.heap.size → Below wx.heap.size wx w' → (fun wx => Holds4 (w.heap.size + 1) (.int .u64 a0) (.int .u64 a1) (.int .u64 a2) (.int .u64 a3) wx ∧ (Holds4 (w2.heap.size) (.int .u64 b0) (.int .u64 b1) (.int .u64 b2) (.int .u64 b3) wx ∧ Free4 w2.heap.size wx)) wx → (fun wx => Holds4 (w.heap.size + 1) (.int .u64 a0) (.int .u64 a1) (.int .u64 a2) (.int .u64 a3) wx ∧ (Holds4 (w2.heap.size) (.int .u64 b0) (.int .u64 b1) (.int .u64 b2) (.int .u64 b3) wx ∧ Free4 w2.heap.size wx)) w' := fun wx w' ht hb ⟨h1, h2, h3⟩ => ⟨h1.below hb (by have := Z6.out; omega), h2.below hb ht, h3.below hb ht⟩
    have L1 := Lib.hid (fun wx (hC : (ClG w w2.heap.size (fun wx => Holds4 (w.heap.size + 1) (.int .u64 a0) (.int .u64 a1) (.int .u64 a2) (.int .u64 a3) wx ∧ (Holds4 (w2.heap.size) (.int .u64 b0) (.int .u64 b1) (.int .u64 b2) (.int .u64 b3) wx ∧ Free4 w2.heap.size wx))) wx) => (show (Instr.loadAt 24 (.pointer (some ⟨w2.heap.size, 0, none⟩))).run Tryd.prog wx = .ok (wv (yN x n)) wx by rw [eb]; exact load4 _ hC.2.2.2.1))
    have L2 := Lib.hid (fun wx (hC : (ClG w w2.heap.size (fun wx => Holds4 (w.heap.size + 1) (.int .u64 a0) (.int .u64 a1) (.int .u64 a2) (.int .u64 a3) wx ∧ (Holds4 (w2.heap.size) (.int .u64 b0) (.int .u64 b1) (.int .u64 b2) (.int .u64 b3) wx ∧ Free4 w2.heap.size wx))) wx) => (show (Instr.loadAt 24 (.pointer (some ⟨w.heap.size + 1, 0, none⟩))).run Tryd.prog wx = .ok Va wx by rw [Ea.out]; exact load4 _ hC.2.2.1))
    have EB := Lib.hid eb; clear eb
    by_cases hlt : n < 32
    · obtain ⟨c0, c1, c2, c3, -, -, -, -, ec, -⟩ := wv_parts (yN x n * 256 + byteN n x)
      have K1 := Lib.hid (fun wx (hC : (ClG w w2.heap.size (fun wx => Holds4 (w.heap.size + 1) (.int .u64 a0) (.int .u64 a1) (.int .u64 a2) (.int .u64 a3) wx ∧ (Holds4 (w2.heap.size) (.int .u64 b0) (.int .u64 b1) (.int .u64 b2) (.int .u64 b3) wx ∧ Free4 w2.heap.size wx))) wx) => (show Calls Tryd.prog 57 #[.int .u64 256] wx fun e w' => e = .returned (wv 256) ∧ (ClG w w2.heap.size (fun wx => Holds4 (w.heap.size + 1) (.int .u64 a0) (.int .u64 a1) (.int .u64 a2) (.int .u64 a3) wx ∧ (Holds4 (w2.heap.size) (.int .u64 b0) (.int .u64 b1) (.int .u64 b2) (.int .u64 b3) wx ∧ Free4 w2.heap.size wx))) w' from (by rw [wv_small (by omega)]; exact of_walk 256 wx : Calls Tryd.prog 57 #[.int .u64 256] wx fun e w' => e = .returned (wv 256) ∧ Below wx.heap.size wx w').mono fun _ _ h => ⟨h.1, hC.below hkeep h.2⟩))
      have K2 := Lib.hid (fun wx (hC : (ClG w w2.heap.size (fun wx => Holds4 (w.heap.size + 1) (.int .u64 a0) (.int .u64 a1) (.int .u64 a2) (.int .u64 a3) wx ∧ (Holds4 (w2.heap.size) (.int .u64 b0) (.int .u64 b1) (.int .u64 b2) (.int .u64 b3) wx ∧ Free4 w2.heap.size wx))) wx) => (show Calls Tryd.prog 57 #[.int .u64 n] wx fun e w' => e = .returned (wv n) ∧ (ClG w w2.heap.size (fun wx => Holds4 (w.heap.size + 1) (.int .u64 a0) (.int .u64 a1) (.int .u64 a2) (.int .u64 a3) wx ∧ (Holds4 (w2.heap.size) (.int .u64 b0) (.int .u64 b1) (.int .u64 b2) (.int .u64 b3) wx ∧ Free4 w2.heap.size wx))) w' from (by rw [wv_small (by omega)]; exact of_walk n wx : Calls Tryd.prog 57 #[.int .u64 n] wx fun e w' => e = .returned (wv n) ∧ Below wx.heap.size wx w').mono fun _ _ h => ⟨h.1, hC.below hkeep h.2⟩))
      have K3 := Lib.hid (fun wx (hC : (ClG w w2.heap.size (fun wx => Holds4 (w.heap.size + 1) (.int .u64 a0) (.int .u64 a1) (.int .u64 a2) (.int .u64 a3) wx ∧ (Holds4 (w2.heap.size) (.int .u64 b0) (.int .u64 b1) (.int .u64 b2) (.int .u64 b3) wx ∧ Free4 w2.heap.size wx))) wx) => (show Calls Tryd.prog 17 #[wv (yN x n), wv 256] wx fun e w' => e = .returned (wv (yN x n * 256)) ∧ (ClG w w2.heap.size (fun wx => Holds4 (w.heap.size + 1) (.int .u64 a0) (.int .u64 a1) (.int .u64 a2) (.int .u64 a3) wx ∧ (Holds4 (w2.heap.size) (.int .u64 b0) (.int .u64 b1) (.int .u64 b2) (.int .u64 b3) wx ∧ Free4 w2.heap.size wx))) w' from (mul_any _ _ wx).mono fun _ _ h => ⟨h.1, hC.below hkeep h.2⟩))
      have K4 := Lib.hid (fun wx (hC : (ClG w w2.heap.size (fun wx => Holds4 (w.heap.size + 1) (.int .u64 a0) (.int .u64 a1) (.int .u64 a2) (.int .u64 a3) wx ∧ (Holds4 (w2.heap.size) (.int .u64 b0) (.int .u64 b1) (.int .u64 b2) (.int .u64 b3) wx ∧ Free4 w2.heap.size wx))) wx) => (show Calls Tryd.prog 35 #[wv n, Va] wx fun e w' => e = .returned (wv (byteN n x)) ∧ (ClG w w2.heap.size (fun wx => Holds4 (w.heap.size + 1) (.int .u64 a0) (.int .u64 a1) (.int .u64 a2) (.int .u64 a3) wx ∧ (Holds4 (w2.heap.size) (.int .u64 b0) (.int .u64 b1) (.int .u64 b2) (.int .u64 b3) wx ∧ Free4 w2.heap.size wx))) w' from (by rw [← Ex.out]; exact byte_any n x wx : Calls Tryd.prog 35 #[wv n, Va] wx fun e w' => e = .returned (wv (byteN n x)) ∧ Below wx.heap.size wx w').mono fun _ _ h => ⟨h.1, hC.below hkeep h.2⟩))
      have K5 := Lib.hid (fun wx (hC : (ClG w w2.heap.size (fun wx => Holds4 (w.heap.size + 1) (.int .u64 a0) (.int .u64 a1) (.int .u64 a2) (.int .u64 a3) wx ∧ (Holds4 (w2.heap.size) (.int .u64 b0) (.int .u64 b1) (.int .u64 b2) (.int .u64 b3) wx ∧ Free4 w2.heap.size wx))) wx) => (show Calls Tryd.prog 13 #[wv (yN x n * 256), wv (byteN n x)] wx fun e w' => e = .returned (.agg #[.int .u64 c0, .int .u64 c1, .int .u64 c2, .int .u64 c3]) ∧ (ClG w w2.heap.size (fun wx => Holds4 (w.heap.size + 1) (.int .u64 a0) (.int .u64 a1) (.int .u64 a2) (.int .u64 a3) wx ∧ (Holds4 (w2.heap.size) (.int .u64 b0) (.int .u64 b1) (.int .u64 b2) (.int .u64 b3) wx ∧ Free4 w2.heap.size wx))) w' from (by rw [← ec]; exact add_any _ _ wx : Calls Tryd.prog 13 #[wv (yN x n * 256), wv (byteN n x)] wx fun e w' => e = .returned (.agg #[.int .u64 c0, .int .u64 c1, .int .u64 c2, .int .u64 c3]) ∧ Below wx.heap.size wx w').mono fun _ _ h => ⟨h.1, hC.below hkeep h.2⟩))
      have EC := Lib.hid ec; clear ec
      have HCr := Lib.hid hC; clear hC hkeep
      go_wp2_with fail
      refine region_quiet_tail 8 (ClG w w2.heap.size (fun wx => Holds4 (w.heap.size + 1) (.int .u64 a0) (.int .u64 a1) (.int .u64 a2) (.int .u64 a3) wx ∧ (Holds4 (w2.heap.size) (.int .u64 b0) (.int .u64 b1) (.int .u64 b2) (.int .u64 b3) wx ∧ Free4 w2.heap.size wx))) (by kernel_rfl) (by kernel_rfl) (HCr.out.drew (fun _ h => h)) ?_
      simp only [List.take_succ_cons, List.take_zero, List.drop_succ_cons, List.drop_zero]
      with_reducible refine q_load 24 (.tmp 6) (.pointer (some ⟨w2.heap.size, 0, none⟩)) (wv (yN x n)) rfl (by kernel_rfl) (by kernel_rfl) L1.out ?_
      with_reducible refine q_call 57 #[.int .u64 256] (wv 256) (by kernel_rfl) (fun _ => by kernel_rfl) K1.out ?_
      with_reducible refine q_call 17 #[wv (yN x n), wv 256] (wv (yN x n * 256)) (by kernel_rfl) (fun _ => by kernel_rfl) K3.out ?_
      with_reducible refine q_val (.int .u64 n) (by kernel_rfl) (fun _ _ => by kernel_rfl) ?_
      with_reducible refine q_call 57 #[.int .u64 n] (wv n) (by kernel_rfl) (fun _ => by kernel_rfl) K2.out ?_
      with_reducible refine q_load 24 (.tmp 3) (.pointer (some ⟨w.heap.size + 1, 0, none⟩)) (Va) rfl (by kernel_rfl) (by kernel_rfl) L2.out ?_
      with_reducible refine q_call 35 #[wv n, Va] (wv (byteN n x)) (by kernel_rfl) (fun _ => by kernel_rfl) K4.out ?_
      with_reducible refine q_call 13 #[wv (yN x n * 256), wv (byteN n x)] (.agg #[.int .u64 c0, .int .u64 c1, .int .u64 c2, .int .u64 c3]) (by kernel_rfl) (fun _ => by kernel_rfl) K5.out ?_
      with_reducible refine wpQuiet_nil ?_
      intro wx hC
      obtain ⟨hB, ht, ⟨ac0, ac1, ac2, ac3⟩, ⟨q0, q1, q2, q3⟩, f0, f1, f2, f3⟩ := hC
      have hz6 := Z6.out
      go_simp
      go_wp2
      go_roundw
      case rel =>
        refine ⟨n + 1, by omega, by go_num, Lib.hid ⟨c0, c1, c2, c3, by rw [← yN_succ x n hlt]; exact EC.out, ?_⟩⟩
        exact ⟨by go_grown, by simp; omega, ⟨by go_cell, by go_cell, by go_cell, by go_cell⟩, ⟨by go_cell, by go_cell, by go_cell, by go_cell⟩, by go_cell, by go_cell, by go_cell, by go_cell⟩
      case measure => simp [intOf]; omega
    · obtain rfl : n = 32 := by omega
      have L3 := Lib.hid (fun wx (hC : (ClG w w2.heap.size (fun wx => Holds4 (w.heap.size + 1) (.int .u64 a0) (.int .u64 a1) (.int .u64 a2) (.int .u64 a3) wx ∧ (Holds4 (w2.heap.size) (.int .u64 b0) (.int .u64 b1) (.int .u64 b2) (.int .u64 b3) wx ∧ Free4 w2.heap.size wx))) wx) => (show (Instr.loadAt 24 (.pointer (some ⟨w2.heap.size, 0, none⟩))).run Tryd.prog wx = .ok Va wx by rw [← Ex.out, ← yN_full x]; exact L1.out wx hC))
      have K1 := Lib.hid (fun wx (hC : (ClG w w2.heap.size (fun wx => Holds4 (w.heap.size + 1) (.int .u64 a0) (.int .u64 a1) (.int .u64 a2) (.int .u64 a3) wx ∧ (Holds4 (w2.heap.size) (.int .u64 b0) (.int .u64 b1) (.int .u64 b2) (.int .u64 b3) wx ∧ Free4 w2.heap.size wx))) wx) => (show Calls Tryd.prog 43 #[Va] wx fun e w' => e = .returned Vn ∧ (ClG w w2.heap.size (fun wx => Holds4 (w.heap.size + 1) (.int .u64 a0) (.int .u64 a1) (.int .u64 a2) (.int .u64 a3) wx ∧ (Holds4 (w2.heap.size) (.int .u64 b0) (.int .u64 b1) (.int .u64 b2) (.int .u64 b3) wx ∧ Free4 w2.heap.size wx))) w' from (Hn1.out wx).mono fun _ _ h => ⟨h.1, hC.below hkeep h.2⟩))
      have K2 := Lib.hid (fun wx (hC : (ClG w w2.heap.size (fun wx => Holds4 (w.heap.size + 1) (.int .u64 a0) (.int .u64 a1) (.int .u64 a2) (.int .u64 a3) wx ∧ (Holds4 (w2.heap.size) (.int .u64 b0) (.int .u64 b1) (.int .u64 b2) (.int .u64 b3) wx ∧ Free4 w2.heap.size wx))) wx) => (show Calls Tryd.prog 43 #[Vn] wx fun e w' => e = .returned Va ∧ (ClG w w2.heap.size (fun wx => Holds4 (w.heap.size + 1) (.int .u64 a0) (.int .u64 a1) (.int .u64 a2) (.int .u64 a3) wx ∧ (Holds4 (w2.heap.size) (.int .u64 b0) (.int .u64 b1) (.int .u64 b2) (.int .u64 b3) wx ∧ Free4 w2.heap.size wx))) w' from (Hn2.out wx).mono fun _ _ h => ⟨h.1, hC.below hkeep h.2⟩))
      have K3 := Lib.hid (fun wx (hC : (ClG w w2.heap.size (fun wx => Holds4 (w.heap.size + 1) (.int .u64 a0) (.int .u64 a1) (.int .u64 a2) (.int .u64 a3) wx ∧ (Holds4 (w2.heap.size) (.int .u64 b0) (.int .u64 b1) (.int .u64 b2) (.int .u64 b3) wx ∧ Free4 w2.heap.size wx))) wx) => (show Calls Tryd.prog 43 #[.agg #[.int .u64 0, .int .u64 0, .int .u64 0, .int .u64 0]] wx fun e w' => e = .returned Vm ∧ (ClG w w2.heap.size (fun wx => Holds4 (w.heap.size + 1) (.int .u64 a0) (.int .u64 a1) (.int .u64 a2) (.int .u64 a3) wx ∧ (Holds4 (w2.heap.size) (.int .u64 b0) (.int .u64 b1) (.int .u64 b2) (.int .u64 b3) wx ∧ Free4 w2.heap.size wx))) w' from (Hn3.out wx).mono fun _ _ h => ⟨h.1, hC.below hkeep h.2⟩))
      have K4 := Lib.hid (fun wx (hC : (ClG w w2.heap.size (fun wx => Holds4 (w.heap.size + 1) (.int .u64 a0) (.int .u64 a1) (.int .u64 a2) (.int .u64 a3) wx ∧ (Holds4 (w2.heap.size) (.int .u64 b0) (.int .u64 b1) (.int .u64 b2) (.int .u64 b3) wx ∧ Free4 w2.heap.size wx))) wx) => (show Calls Tryd.prog 13 #[Va, Vn] wx fun e w' => e = .returned Vm ∧ (ClG w w2.heap.size (fun wx => Holds4 (w.heap.size + 1) (.int .u64 a0) (.int .u64 a1) (.int .u64 a2) (.int .u64 a3) wx ∧ (Holds4 (w2.heap.size) (.int .u64 b0) (.int .u64 b1) (.int .u64 b2) (.int .u64 b3) wx ∧ Free4 w2.heap.size wx))) w' from (Had.out wx).mono fun _ _ h => ⟨h.1, hC.below hkeep h.2⟩))
      have K5 := Lib.hid (fun wx (hC : (ClG w w2.heap.size (fun wx => Holds4 (w.heap.size + 1) (.int .u64 a0) (.int .u64 a1) (.int .u64 a2) (.int .u64 a3) wx ∧ (Holds4 (w2.heap.size) (.int .u64 b0) (.int .u64 b1) (.int .u64 b2) (.int .u64 b3) wx ∧ Free4 w2.heap.size wx))) wx) => (show Calls Tryd.prog 19 #[] wx fun e w' => e = .returned (.bool true) ∧ (ClG w w2.heap.size (fun wx => Holds4 (w.heap.size + 1) (.int .u64 a0) (.int .u64 a1) (.int .u64 a2) (.int .u64 a3) wx ∧ (Holds4 (w2.heap.size) (.int .u64 b0) (.int .u64 b1) (.int .u64 b2) (.int .u64 b3) wx ∧ Free4 w2.heap.size wx))) w' from (Hlv.out wx).mono fun _ _ h => ⟨h.1, hC.below hkeep h.2⟩))
      have HCr := Lib.hid hC; clear hC hkeep L1
      go_wp2_with fail
      refine wp_region_quiet (C := (ClG w w2.heap.size (fun wx => Holds4 (w.heap.size + 1) (.int .u64 a0) (.int .u64 a1) (.int .u64 a2) (.int .u64 a3) wx ∧ (Holds4 (w2.heap.size) (.int .u64 b0) (.int .u64 b1) (.int .u64 b2) (.int .u64 b3) wx ∧ Free4 w2.heap.size wx)))) (by kernel_rfl) (by kernel_rfl) (HCr.out.drew (fun _ h => h)) ?_
      with_reducible refine q_load 24 (.tmp 6) (.pointer (some ⟨w2.heap.size, 0, none⟩)) (Va) rfl (by kernel_rfl) (by kernel_rfl) L3.out ?_
      with_reducible refine q_load 24 (.tmp 3) (.pointer (some ⟨w.heap.size + 1, 0, none⟩)) (Va) rfl (by kernel_rfl) (by kernel_rfl) L2.out ?_
      with_reducible refine q_bin .eql 24 _ _ 24 (Va) (Va) (.bool true) rfl (by kernel_rfl) (by kernel_rfl) (by kernel_rfl) (Hga.out _ _) Hqa.out ?_
      with_reducible refine q_val (.bool true) (by kernel_rfl) (fun _ _ => by kernel_rfl) ?_
      with_reducible refine q_load 24 (.tmp 3) (.pointer (some ⟨w.heap.size + 1, 0, none⟩)) (Va) rfl (by kernel_rfl) (by kernel_rfl) L2.out ?_
      with_reducible refine q_call 43 #[Va] (Vn) (by kernel_rfl) (fun _ => by kernel_rfl) K1.out ?_
      with_reducible refine q_call 43 #[Vn] (Va) (by kernel_rfl) (fun _ => by kernel_rfl) K2.out ?_
      with_reducible refine q_load 24 (.tmp 3) (.pointer (some ⟨w.heap.size + 1, 0, none⟩)) (Va) rfl (by kernel_rfl) (by kernel_rfl) L2.out ?_
      with_reducible refine q_bin .eql 24 _ _ 24 (Va) (Va) (.bool true) rfl (by kernel_rfl) (by kernel_rfl) (by kernel_rfl) (Hga.out _ _) Hqa.out ?_
      with_reducible refine q_val (.bool true) (by kernel_rfl) (fun _ _ => by kernel_rfl) ?_
      with_reducible refine q_val (.bool true) (by kernel_rfl) (fun _ _ => by kernel_rfl) ?_
      with_reducible refine q_load 24 (.tmp 3) (.pointer (some ⟨w.heap.size + 1, 0, none⟩)) (Va) rfl (by kernel_rfl) (by kernel_rfl) L2.out ?_
      with_reducible refine q_load 24 (.tmp 3) (.pointer (some ⟨w.heap.size + 1, 0, none⟩)) (Va) rfl (by kernel_rfl) (by kernel_rfl) L2.out ?_
      with_reducible refine q_call 43 #[Va] (Vn) (by kernel_rfl) (fun _ => by kernel_rfl) K1.out ?_
      with_reducible refine q_call 13 #[Va, Vn] (Vm) (by kernel_rfl) (fun _ => by kernel_rfl) K4.out ?_
      with_reducible refine q_val (.agg #[.int .u64 0, .int .u64 0, .int .u64 0, .int .u64 0]) (by kernel_rfl) (fun _ _ => by kernel_rfl) ?_
      with_reducible refine q_call 43 #[.agg #[.int .u64 0, .int .u64 0, .int .u64 0, .int .u64 0]] (Vm) (by kernel_rfl) (fun _ => by kernel_rfl) K3.out ?_
      with_reducible refine q_bin .eql 24 _ _ 24 (Vm) (Vm) (.bool true) rfl (by kernel_rfl) (by kernel_rfl) (by kernel_rfl) (Hgm.out _ _) Hqm.out ?_
      with_reducible refine q_val (.bool true) (by kernel_rfl) (fun _ _ => by kernel_rfl) ?_
      with_reducible refine q_val (.bool true) (by kernel_rfl) (fun _ _ => by kernel_rfl) ?_
      with_reducible refine q_call 19 #[] (.bool true) (by kernel_rfl) (fun _ => by kernel_rfl) K5.out ?_
      with_reducible refine q_val (.bool true) (by kernel_rfl) (fun _ _ => by kernel_rfl) ?_
      with_reducible refine q_val (.bool true) (by kernel_rfl) (fun _ _ => by kernel_rfl) ?_
      with_reducible refine wpQuiet_nil ?_
      intro wx hC
      have hB := hC.1
      clear hC
      generalize hA : Act.put _ _ _ = A
      have h6 : A.tmps.getD 4 undef = Value.bool true := by subst hA; kernel_rfl
      have hd : A.defers = [] := by subst hA; kernel_rfl
      clear hA
      go_wp2
      (try simp only [Exit.inBlock, Exit.then])
      refine bodyPost_ret (v := .bool true) (by rw [results_tmp rfl _ _ _, h6]) hd ⟨rfl, hB⟩
end Go.Proofs.YthfadinocadhaaaDoor
namespace Go.Proofs.YthfadinocadhaaaDoor
open Go.RowKit

theorem neg_any (x : Nat) (o1 o2 : Operand) (w : World) : (eqGuard BinOp.neq 24 o1 o2 (wv x) (wv x)).run Tryd.prog w = .ok () w := by kernel_rfl
theorem neb_any (x : Nat) (w : World) : (binOp BinOp.neq 24 (wv x) (wv x)).run Tryd.prog w = .ok (.bool false) w := by
  obtain ⟨x0, x1, x2, x3, -, -, -, -, ex, -⟩ := wv_parts x
  rw [ex]
  have h : ∀ w, (Op.equalIn 10000 24 (.agg #[.int .u64 x0, .int .u64 x1, .int .u64 x2, .int .u64 x3]) (.agg #[.int .u64 x0, .int .u64 x1, .int .u64 x2, .int .u64 x3])).run Tryd.prog w = .ok true w := fun w => by
    have := eqW x0 x1 x2 x3 x0 x1 x2 x3 w
    simpa using this
  go_simp

/-- What was shifted down again, shifted up, is what it was. -/
theorem sar_back (x s : Nat) (hs : s ≤ 255) : sarN s (x * 2 ^ s % 115792089237316195423570985008687907853269984665640564039457584007913129639936) * 2 ^ s % 115792089237316195423570985008687907853269984665640564039457584007913129639936 = x * 2 ^ s % 115792089237316195423570985008687907853269984665640564039457584007913129639936 := by
  have hW : 115792089237316195423570985008687907853269984665640564039457584007913129639936 = 2 ^ s * 2 ^ (256 - s) := by rw [← Nat.pow_add, show s + (256 - s) = 256 by omega]
  have hP : 0 < 2 ^ s := Nat.two_pow_pos s
  have hQ : 0 < 2 ^ (256 - s) := Nat.two_pow_pos _
  have hy : x * 2 ^ s % 115792089237316195423570985008687907853269984665640564039457584007913129639936 = 2 ^ s * (x % 2 ^ (256 - s)) := by
    rw [hW, Nat.mul_comm x, Nat.mul_mod_mul_left]
  rw [hy]
  unfold sarN
  have hu : x % 2 ^ (256 - s) < 2 ^ (256 - s) := Nat.mod_lt _ hQ
  generalize x % 2 ^ (256 - s) = u at *
  generalize 2 ^ (256 - s) = Q at *
  generalize 2 ^ s = P at *
  clear hy
  obtain ⟨t, rfl⟩ : ∃ t, Q = u + 1 + t := ⟨Q - u - 1, by omega⟩
  have hW2 : 115792089237316195423570985008687907853269984665640564039457584007913129639936 = P * u + P + P * t := by
    rw [hW, Nat.mul_add, Nat.mul_add, Nat.mul_one]
  clear hW hu hQ
  split
  · have e1 : 115792089237316195423570985008687907853269984665640564039457584007913129639935 - P * u = P * t + (P - 1) := by omega
    have e2 : (P * t + (P - 1)) / P = t := by rw [Nat.mul_add_div hP, Nat.div_eq_of_lt (by omega), Nat.add_zero]
    rw [e1, e2]
    have ht : t ≤ P * t := Nat.le_mul_of_pos_left t hP
    have h1 : (115792089237316195423570985008687907853269984665640564039457584007913129639935 - t) * P + (1 + t) * P = 115792089237316195423570985008687907853269984665640564039457584007913129639936 * P := by
      rw [← Nat.add_mul, show 115792089237316195423570985008687907853269984665640564039457584007913129639935 - t + (1 + t) = 115792089237316195423570985008687907853269984665640564039457584007913129639936 by omega]
    have h2 : (1 + t) * P = P + P * t := by rw [Nat.add_mul, Nat.one_mul, Nat.mul_comm t]
    have h3 : (115792089237316195423570985008687907853269984665640564039457584007913129639935 - t) * P = P * u + 115792089237316195423570985008687907853269984665640564039457584007913129639936 * (P - 1) := by
      generalize (115792089237316195423570985008687907853269984665640564039457584007913129639935 - t) * P = X at *
      generalize (1 + t) * P = Y at *
      omega
    rw [h3, Nat.add_mul_mod_self_left]
    exact Nat.mod_eq_of_lt (by omega)
  · rw [Nat.mul_div_cancel_left u hP, Nat.mul_comm u]
    exact Nat.mod_eq_of_lt (by omega)

theorem sext_twice (k x : Nat) : sextN k (sextN k x) = sextN k x := by
  unfold sextN
  by_cases h : k % 115792089237316195423570985008687907853269984665640564039457584007913129639936 ≤ 30
  · simp only [h, if_true]
    rw [sar_back x _ (by omega)]
  · simp only [h, if_false]

theorem signs_any (k x : Nat) (w : World) : Calls Tryd.prog 12 #[wv k, wv x] w fun e w' => e = .returned (.bool true) ∧ Below w.heap.size w w' := by
  obtain ⟨k0, k1, k2, k3, -, -, -, -, ek, -⟩ := wv_parts k
  obtain ⟨a0, a1, a2, a3, -, -, -, -, ea, -⟩ := wv_parts x
  obtain ⟨s0, s1, s2, s3, -, -, -, -, es, -⟩ := wv_parts (sextN k x)
  have hs0 := fun w => sext_any k x w
  rw [ek, ea, es] at hs0
  have h2 : wv (115792089237316195423570985008687907853269984665640564039457584007913129639935 - (115792089237316195423570985008687907853269984665640564039457584007913129639935 - x % 115792089237316195423570985008687907853269984665640564039457584007913129639936) % 115792089237316195423570985008687907853269984665640564039457584007913129639936) = wv x := wv_congr (by omega)
  have h3 : wv (x + (115792089237316195423570985008687907853269984665640564039457584007913129639935 - x % 115792089237316195423570985008687907853269984665640564039457584007913129639936)) = wv (115792089237316195423570985008687907853269984665640564039457584007913129639935 - 0 % 115792089237316195423570985008687907853269984665640564039457584007913129639936) := wv_congr (by omega)
  have R := signs_walk x k0 k1 k2 k3 a0 a1 a2 a3 s0 s1 s2 s3 (wv k) (wv x) (wv (sextN k x)) _ _ w ek ea es rfl hs0
    (fun w => by have h := sext_any k (sextN k x) w; rw [sext_twice] at h; exact h)
    (fun w => not_any x w)
    (fun w => by have h := not_any (115792089237316195423570985008687907853269984665640564039457584007913129639935 - x % 115792089237316195423570985008687907853269984665640564039457584007913129639936) w; rw [h2] at h; exact h)
    (fun w => by have h := not_any 0 w; rw [wv_zero] at h; exact h)
    (fun w => by have h := add_any x (115792089237316195423570985008687907853269984665640564039457584007913129639935 - x % 115792089237316195423570985008687907853269984665640564039457584007913129639936) w; rw [h3] at h; exact h)
    (neb_any _) (neg_any _) (eqb_any _) (eqg_any _) (eqb_any _) (eqg_any _) lives_any
  rw [ek, ea]
  exact R
end Go.Proofs.YthfadinocadhaaaDoor
namespace Go.Proofs.YthfadinocadhaaaDoor
open Go.RowKit

theorem eqi_guard (n : Int) (o1 o2 : Operand) (w : World) : (eqGuard BinOp.eql 3 o1 o2 (.int .i64 n) (.int .i64 n)).run Tryd.prog w = .ok () w := by kernel_rfl
theorem eqi_same (n : Int) (w : World) : (binOp BinOp.eql 3 (.int .i64 n) (.int .i64 n)).run Tryd.prog w = .ok (.bool true) w := by
  go_simp

set_option maxRecDepth 100000 in
set_option maxHeartbeats 2000000 in
theorem bits_any (x y : Nat) (w : World) : Calls Tryd.prog 7 #[wv x, wv y] w fun e w' => e = .returned (.bool true) ∧ Below w.heap.size w w' := by
  rw [wv_pw, wv_pw]
  have L1 := Lib.hid (fun wx (hC : (CW2 w x y) wx) => load_pw hC.2.1)
  have L2 := Lib.hid (fun wx (hC : (CW2 w x y) wx) => load_pw hC.2.2)
  have K1 := Lib.hid (CW2.call (w := w) (x := x) (y := y) (args := #[wv x, wv y]) (v := wv (sextN x y)) (fun w => sext_any x y w))
  have K2 := Lib.hid (CW2.call (w := w) (x := x) (y := y) (args := #[wv x, wv y]) (v := wv (sextN x y)) (fun w => sext_ref x y w))
  have K3 := Lib.hid (CW2.call (w := w) (x := x) (y := y) (args := #[wv x, wv y]) (v := wv (byteN x y)) (fun w => byte_any x y w))
  have K4 := Lib.hid (CW2.call (w := w) (x := x) (y := y) (args := #[wv x, wv y]) (v := wv (byteN x y)) (fun w => byte_ref x y w))
  have K5 := Lib.hid (CW2.call (w := w) (x := x) (y := y) (args := #[wv x, wv y]) (v := wv (y * 2 ^ min (x % 115792089237316195423570985008687907853269984665640564039457584007913129639936) 256)) (fun w => shl_any x y w))
  have K6 := Lib.hid (CW2.call (w := w) (x := x) (y := y) (args := #[wv x, wv y]) (v := wv (y * 2 ^ min (x % 115792089237316195423570985008687907853269984665640564039457584007913129639936) 256)) (fun w => shl_ref x y w))
  have K7 := Lib.hid (CW2.call (w := w) (x := x) (y := y) (args := #[wv x, wv y]) (v := wv (y % 115792089237316195423570985008687907853269984665640564039457584007913129639936 / 2 ^ min (x % 115792089237316195423570985008687907853269984665640564039457584007913129639936) 256)) (fun w => shr_any x y w))
  have K8 := Lib.hid (CW2.call (w := w) (x := x) (y := y) (args := #[wv x, wv y]) (v := wv (y % 115792089237316195423570985008687907853269984665640564039457584007913129639936 / 2 ^ min (x % 115792089237316195423570985008687907853269984665640564039457584007913129639936) 256)) (fun w => shr_ref x y w))
  have K9 := Lib.hid (CW2.call (w := w) (x := x) (y := y) (args := #[wv x, wv y]) (v := wv (sarN (min (x % 115792089237316195423570985008687907853269984665640564039457584007913129639936) 256) (y % 115792089237316195423570985008687907853269984665640564039457584007913129639936))) (fun w => sar_any x y w))
  have K10 := Lib.hid (CW2.call (w := w) (x := x) (y := y) (args := #[wv x, wv y]) (v := wv (sarN (min (x % 115792089237316195423570985008687907853269984665640564039457584007913129639936) 256) (y % 115792089237316195423570985008687907853269984665640564039457584007913129639936))) (fun w => sar_ref x y w))
  have K11 := Lib.hid (CW2.call (w := w) (x := x) (y := y) (args := #[wv y]) (v := wv (115792089237316195423570985008687907853269984665640564039457584007913129639935 - y % 115792089237316195423570985008687907853269984665640564039457584007913129639936)) (fun w => not_any y w))
  have K12 := Lib.hid (CW2.call (w := w) (x := x) (y := y) (args := #[wv y]) (v := wv (115792089237316195423570985008687907853269984665640564039457584007913129639935 - y % 115792089237316195423570985008687907853269984665640564039457584007913129639936)) (fun w => not_ref y w))
  have K13 := Lib.hid (CW2.call (w := w) (x := x) (y := y) (args := #[wv y]) (v := .int .i64 (bl y 256 : Nat)) (fun w => len_exact y w))
  have K14 := Lib.hid (CW2.call (w := w) (x := x) (y := y) (args := #[wv y]) (v := .int .i64 (bl y 256 : Nat)) (fun w => len_ref y w))
  have K15 := Lib.hid (CW2.call (w := w) (x := x) (y := y) lives_any)
  go_enter Tryd.func7, Tryd.ntmps7
  go_wp2_with fail
  refine wp_region_quiet (C := (CW2 w x y)) (by kernel_rfl) (by kernel_rfl) ⟨Below.drew (by go_grown), heap_alloc2_old _ _ _, heap_alloc2_new _ _ _⟩ ?_
  with_reducible refine q_load 24 (.tmp 2) (.pointer (some ⟨w.heap.size, 0, none⟩)) (wv x) rfl (by kernel_rfl) (by kernel_rfl) L1.out ?_
  with_reducible refine q_load 24 (.tmp 3) (.pointer (some ⟨w.heap.size + 1, 0, none⟩)) (wv y) rfl (by kernel_rfl) (by kernel_rfl) L2.out ?_
  with_reducible refine q_call 33 #[wv x, wv y] (wv (sextN x y)) (by kernel_rfl) (fun _ => by kernel_rfl) K1.out ?_
  with_reducible refine q_load 24 (.tmp 2) (.pointer (some ⟨w.heap.size, 0, none⟩)) (wv x) rfl (by kernel_rfl) (by kernel_rfl) L1.out ?_
  with_reducible refine q_load 24 (.tmp 3) (.pointer (some ⟨w.heap.size + 1, 0, none⟩)) (wv y) rfl (by kernel_rfl) (by kernel_rfl) L2.out ?_
  with_reducible refine q_call 34 #[wv x, wv y] (wv (sextN x y)) (by kernel_rfl) (fun _ => by kernel_rfl) K2.out ?_
  with_reducible refine q_bin .eql 24 _ _ 24 (wv (sextN x y)) (wv (sextN x y)) (.bool true) rfl (by kernel_rfl) (by kernel_rfl) (by kernel_rfl) (eqg_any _ _ _) (eqb_any _) ?_
  with_reducible refine q_val (.bool true) (by kernel_rfl) (fun _ _ => by kernel_rfl) ?_
  with_reducible refine q_load 24 (.tmp 2) (.pointer (some ⟨w.heap.size, 0, none⟩)) (wv x) rfl (by kernel_rfl) (by kernel_rfl) L1.out ?_
  with_reducible refine q_load 24 (.tmp 3) (.pointer (some ⟨w.heap.size + 1, 0, none⟩)) (wv y) rfl (by kernel_rfl) (by kernel_rfl) L2.out ?_
  with_reducible refine q_call 35 #[wv x, wv y] (wv (byteN x y)) (by kernel_rfl) (fun _ => by kernel_rfl) K3.out ?_
  with_reducible refine q_load 24 (.tmp 2) (.pointer (some ⟨w.heap.size, 0, none⟩)) (wv x) rfl (by kernel_rfl) (by kernel_rfl) L1.out ?_
  with_reducible refine q_load 24 (.tmp 3) (.pointer (some ⟨w.heap.size + 1, 0, none⟩)) (wv y) rfl (by kernel_rfl) (by kernel_rfl) L2.out ?_
  with_reducible refine q_call 36 #[wv x, wv y] (wv (byteN x y)) (by kernel_rfl) (fun _ => by kernel_rfl) K4.out ?_
  with_reducible refine q_bin .eql 24 _ _ 24 (wv (byteN x y)) (wv (byteN x y)) (.bool true) rfl (by kernel_rfl) (by kernel_rfl) (by kernel_rfl) (eqg_any _ _ _) (eqb_any _) ?_
  with_reducible refine q_val (.bool true) (by kernel_rfl) (fun _ _ => by kernel_rfl) ?_
  with_reducible refine q_val (.bool true) (by kernel_rfl) (fun _ _ => by kernel_rfl) ?_
  with_reducible refine q_load 24 (.tmp 2) (.pointer (some ⟨w.heap.size, 0, none⟩)) (wv x) rfl (by kernel_rfl) (by kernel_rfl) L1.out ?_
  with_reducible refine q_load 24 (.tmp 3) (.pointer (some ⟨w.heap.size + 1, 0, none⟩)) (wv y) rfl (by kernel_rfl) (by kernel_rfl) L2.out ?_
  with_reducible refine q_call 37 #[wv x, wv y] (wv (y * 2 ^ min (x % 115792089237316195423570985008687907853269984665640564039457584007913129639936) 256)) (by kernel_rfl) (fun _ => by kernel_rfl) K5.out ?_
  with_reducible refine q_load 24 (.tmp 2) (.pointer (some ⟨w.heap.size, 0, none⟩)) (wv x) rfl (by kernel_rfl) (by kernel_rfl) L1.out ?_
  with_reducible refine q_load 24 (.tmp 3) (.pointer (some ⟨w.heap.size + 1, 0, none⟩)) (wv y) rfl (by kernel_rfl) (by kernel_rfl) L2.out ?_
  with_reducible refine q_call 38 #[wv x, wv y] (wv (y * 2 ^ min (x % 115792089237316195423570985008687907853269984665640564039457584007913129639936) 256)) (by kernel_rfl) (fun _ => by kernel_rfl) K6.out ?_
  with_reducible refine q_bin .eql 24 _ _ 24 (wv (y * 2 ^ min (x % 115792089237316195423570985008687907853269984665640564039457584007913129639936) 256)) (wv (y * 2 ^ min (x % 115792089237316195423570985008687907853269984665640564039457584007913129639936) 256)) (.bool true) rfl (by kernel_rfl) (by kernel_rfl) (by kernel_rfl) (eqg_any _ _ _) (eqb_any _) ?_
  with_reducible refine q_val (.bool true) (by kernel_rfl) (fun _ _ => by kernel_rfl) ?_
  with_reducible refine q_val (.bool true) (by kernel_rfl) (fun _ _ => by kernel_rfl) ?_
  with_reducible refine q_load 24 (.tmp 2) (.pointer (some ⟨w.heap.size, 0, none⟩)) (wv x) rfl (by kernel_rfl) (by kernel_rfl) L1.out ?_
  with_reducible refine q_load 24 (.tmp 3) (.pointer (some ⟨w.heap.size + 1, 0, none⟩)) (wv y) rfl (by kernel_rfl) (by kernel_rfl) L2.out ?_
  with_reducible refine q_call 39 #[wv x, wv y] (wv (y % 115792089237316195423570985008687907853269984665640564039457584007913129639936 / 2 ^ min (x % 115792089237316195423570985008687907853269984665640564039457584007913129639936) 256)) (by kernel_rfl) (fun _ => by kernel_rfl) K7.out ?_
  with_reducible refine q_load 24 (.tmp 2) (.pointer (some ⟨w.heap.size, 0, none⟩)) (wv x) rfl (by kernel_rfl) (by kernel_rfl) L1.out ?_
  with_reducible refine q_load 24 (.tmp 3) (.pointer (some ⟨w.heap.size + 1, 0, none⟩)) (wv y) rfl (by kernel_rfl) (by kernel_rfl) L2.out ?_
  with_reducible refine q_call 40 #[wv x, wv y] (wv (y % 115792089237316195423570985008687907853269984665640564039457584007913129639936 / 2 ^ min (x % 115792089237316195423570985008687907853269984665640564039457584007913129639936) 256)) (by kernel_rfl) (fun _ => by kernel_rfl) K8.out ?_
  with_reducible refine q_bin .eql 24 _ _ 24 (wv (y % 115792089237316195423570985008687907853269984665640564039457584007913129639936 / 2 ^ min (x % 115792089237316195423570985008687907853269984665640564039457584007913129639936) 256)) (wv (y % 115792089237316195423570985008687907853269984665640564039457584007913129639936 / 2 ^ min (x % 115792089237316195423570985008687907853269984665640564039457584007913129639936) 256)) (.bool true) rfl (by kernel_rfl) (by kernel_rfl) (by kernel_rfl) (eqg_any _ _ _) (eqb_any _) ?_
  with_reducible refine q_val (.bool true) (by kernel_rfl) (fun _ _ => by kernel_rfl) ?_
  with_reducible refine q_val (.bool true) (by kernel_rfl) (fun _ _ => by kernel_rfl) ?_
  with_reducible refine q_load 24 (.tmp 2) (.pointer (some ⟨w.heap.size, 0, none⟩)) (wv x) rfl (by kernel_rfl) (by kernel_rfl) L1.out ?_
  with_reducible refine q_load 24 (.tmp 3) (.pointer (some ⟨w.heap.size + 1, 0, none⟩)) (wv y) rfl (by kernel_rfl) (by kernel_rfl) L2.out ?_
  with_reducible refine q_call 41 #[wv x, wv y] (wv (sarN (min (x % 115792089237316195423570985008687907853269984665640564039457584007913129639936) 256) (y % 115792089237316195423570985008687907853269984665640564039457584007913129639936))) (by kernel_rfl) (fun _ => by kernel_rfl) K9.out ?_
  with_reducible refine q_load 24 (.tmp 2) (.pointer (some ⟨w.heap.size, 0, none⟩)) (wv x) rfl (by kernel_rfl) (by kernel_rfl) L1.out ?_
  with_reducible refine q_load 24 (.tmp 3) (.pointer (some ⟨w.heap.size + 1, 0, none⟩)) (wv y) rfl (by kernel_rfl) (by kernel_rfl) L2.out ?_
  with_reducible refine q_call 42 #[wv x, wv y] (wv (sarN (min (x % 115792089237316195423570985008687907853269984665640564039457584007913129639936) 256) (y % 115792089237316195423570985008687907853269984665640564039457584007913129639936))) (by kernel_rfl) (fun _ => by kernel_rfl) K10.out ?_
  with_reducible refine q_bin .eql 24 _ _ 24 (wv (sarN (min (x % 115792089237316195423570985008687907853269984665640564039457584007913129639936) 256) (y % 115792089237316195423570985008687907853269984665640564039457584007913129639936))) (wv (sarN (min (x % 115792089237316195423570985008687907853269984665640564039457584007913129639936) 256) (y % 115792089237316195423570985008687907853269984665640564039457584007913129639936))) (.bool true) rfl (by kernel_rfl) (by kernel_rfl) (by kernel_rfl) (eqg_any _ _ _) (eqb_any _) ?_
  with_reducible refine q_val (.bool true) (by kernel_rfl) (fun _ _ => by kernel_rfl) ?_
  with_reducible refine q_val (.bool true) (by kernel_rfl) (fun _ _ => by kernel_rfl) ?_
  with_reducible refine q_load 24 (.tmp 3) (.pointer (some ⟨w.heap.size + 1, 0, none⟩)) (wv y) rfl (by kernel_rfl) (by kernel_rfl) L2.out ?_
  with_reducible refine q_call 43 #[wv y] (wv (115792089237316195423570985008687907853269984665640564039457584007913129639935 - y % 115792089237316195423570985008687907853269984665640564039457584007913129639936)) (by kernel_rfl) (fun _ => by kernel_rfl) K11.out ?_
  with_reducible refine q_load 24 (.tmp 3) (.pointer (some ⟨w.heap.size + 1, 0, none⟩)) (wv y) rfl (by kernel_rfl) (by kernel_rfl) L2.out ?_
  with_reducible refine q_call 44 #[wv y] (wv (115792089237316195423570985008687907853269984665640564039457584007913129639935 - y % 115792089237316195423570985008687907853269984665640564039457584007913129639936)) (by kernel_rfl) (fun _ => by kernel_rfl) K12.out ?_
  with_reducible refine q_bin .eql 24 _ _ 24 (wv (115792089237316195423570985008687907853269984665640564039457584007913129639935 - y % 115792089237316195423570985008687907853269984665640564039457584007913129639936)) (wv (115792089237316195423570985008687907853269984665640564039457584007913129639935 - y % 115792089237316195423570985008687907853269984665640564039457584007913129639936)) (.bool true) rfl (by kernel_rfl) (by kernel_rfl) (by kernel_rfl) (eqg_any _ _ _) (eqb_any _) ?_
  with_reducible refine q_val (.bool true) (by kernel_rfl) (fun _ _ => by kernel_rfl) ?_
  with_reducible refine q_val (.bool true) (by kernel_rfl) (fun _ _ => by kernel_rfl) ?_
  with_reducible refine q_load 24 (.tmp 3) (.pointer (some ⟨w.heap.size + 1, 0, none⟩)) (wv y) rfl (by kernel_rfl) (by kernel_rfl) L2.out ?_
  with_reducible refine q_call 45 #[wv y] (.int .i64 (bl y 256 : Nat)) (by kernel_rfl) (fun _ => by kernel_rfl) K13.out ?_
  with_reducible refine q_load 24 (.tmp 3) (.pointer (some ⟨w.heap.size + 1, 0, none⟩)) (wv y) rfl (by kernel_rfl) (by kernel_rfl) L2.out ?_
  with_reducible refine q_call 46 #[wv y] (.int .i64 (bl y 256 : Nat)) (by kernel_rfl) (fun _ => by kernel_rfl) K14.out ?_
  with_reducible refine q_bin .eql 3 _ _ 3 (.int .i64 (bl y 256 : Nat)) (.int .i64 (bl y 256 : Nat)) (.bool true) rfl (by kernel_rfl) (by kernel_rfl) (by kernel_rfl) (eqi_guard _ _ _) (eqi_same _) ?_
  with_reducible refine q_val (.bool true) (by kernel_rfl) (fun _ _ => by kernel_rfl) ?_
  with_reducible refine q_val (.bool true) (by kernel_rfl) (fun _ _ => by kernel_rfl) ?_
  with_reducible refine q_call 19 #[] (.bool true) (by kernel_rfl) (fun _ => by kernel_rfl) K15.out ?_
  with_reducible refine q_val (.bool true) (by kernel_rfl) (fun _ _ => by kernel_rfl) ?_
  with_reducible refine q_val (.bool true) (by kernel_rfl) (fun _ _ => by kernel_rfl) ?_
  with_reducible refine wpQuiet_nil ?_
  intro wx hC
  have hB := hC.1
  clear hC
  generalize hA : Act.put _ _ _ = A
  have h6 : A.tmps.getD 4 undef = Value.bool true := by subst hA; kernel_rfl
  have hd : A.defers = [] := by subst hA; kernel_rfl
  clear hA
  go_wp2
  (try simp only [Exit.inBlock, Exit.then])
  refine bodyPost_ret (v := .bool true) (by rw [results_tmp rfl _ _ _, h6]) hd ⟨rfl, hB⟩
end Go.Proofs.YthfadinocadhaaaDoor
namespace Go.Proofs.YthfadinocadhaaaDoor
open Go.ChangeShapes Go.WideShapes Go.ChangeAt Go.RowKit

theorem ownF : ownKnob Tryd.prog.godebug = none := by kernel_rfl
theorem laidOutF : laidOutB Tryd.prog = true := by kernel_rfl
theorem cellsU64 : Tryd.prog.cellsOf 22 = 1 := by kernel_rfl
theorem cellsWord : Tryd.prog.cellsOf 24 = 4 := by kernel_rfl

theorem list4 {α : Type} (l : List α) (h : (⟨l⟩ : Array α).size = 4) : ∃ a b c d, l = [a, b, c, d] := by
  match l, h with
  | [a, b, c, d], _ => exact ⟨a, b, c, d, rfl⟩

theorem nat_of_wf {x : Int} (h : (Lit.int .u64 x).wf = true) : ∃ n : Nat, n < 18446744073709551616 ∧ x = (n : Int) := by
  obtain ⟨h0, h1⟩ := bounds_u64 h
  clear h
  obtain ⟨n, rfl⟩ := Int.eq_ofNat_of_zero_le h0
  exact ⟨n, by omega, rfl⟩

set_option maxRecDepth 100000 in
/-- A WORD AMONG THE ARGUMENTS is the value of a number. -/
theorem open_word {H : Type} {enc : TypeId × Value → H} {W : World} {base b2 : Nat} {sp : Nat → Bool} {hd : Bool} {v : Value} {d : DataW H} {ps : List MemPlace}
    (hv : Value.okWide Tryd.prog W .any base 24 v) (h : DataW.Trod enc Tryd.prog W b2 sp hd 24 v d ps) : ∃ x : Nat, v = wv x := by
  obtain ⟨cs, rfl, hsz, _⟩ : ∃ cs, v = .agg cs ∧ cs.size = Tryd.prog.cellsOf 24 ∧ Row.okWide Tryd.prog W .any base 24 cs := by
    simpa [Value.okWide, Tryd.underlying24] using hv
  rw [cellsWord] at hsz
  obtain ⟨l⟩ := cs
  obtain ⟨c0, c1, c2, c3, rfl⟩ := list4 l hsz
  obtain ⟨fuel, hf⟩ := h
  obtain ⟨y0, y1, y2, y3, m, hx, hy0, hy1, hy2, hy3⟩ := trod_array4 Tryd.underlying24 cellsU64 hf
  obtain ⟨x0, e0, rfl, w0⟩ := DataW.trod_int Tryd.underlying22 hy0
  obtain ⟨x1, e1, rfl, w1⟩ := DataW.trod_int Tryd.underlying22 hy1
  obtain ⟨x2, e2, rfl, w2⟩ := DataW.trod_int Tryd.underlying22 hy2
  obtain ⟨x3, e3, rfl, w3⟩ := DataW.trod_int Tryd.underlying22 hy3
  simp at e0 e1 e2 e3
  subst e0 e1 e2 e3
  obtain ⟨n0, l0, rfl⟩ := nat_of_wf w0
  obtain ⟨n1, l1, rfl⟩ := nat_of_wf w1
  obtain ⟨n2, l2, rfl⟩ := nat_of_wf w2
  obtain ⟨n3, l3, rfl⟩ := nat_of_wf w3
  exact ⟨n4 n0 n1 n2 n3, (wv_n4 l0 l1 l2 l3).symm⟩

/-- The cells of a table as a row lists it. -/
def valsOf : DataW Unit → Array Value
  | .agg l => (l.map fun x => match x with
    | .lit (.int k z) => Value.int k z
    | _ => undef).toArray
  | _ => #[]
def layAt (w : World) (b : Nat) (vs : Array Value) : World := { w with heap := w.heap.modify b fun
      | .cells _ t frozen => .cells vs t frozen
      | o => o }
/-- A WORLD FOR THE WITNESS: the settled one, the three tables holding what their initialisers lay. -/
noncomputable def laidWorld (os : Os) : World :=
  layAt (layAt (layAt (World.holding Tryd.prog os ⟨#[], #[], []⟩) 4 (valsOf Rows.laid_math_bits_deBruijn32tab)) 5 (valsOf Rows.laid_math_bits_deBruijn64tab)) 0 (valsOf Rows.laid_internal_strconv_uint64pow10)
end Go.Proofs.YthfadinocadhaaaDoor
namespace Go.Proofs.YthfadinocadhaaaDoor
end Go.Proofs.YthfadinocadhaaaDoor

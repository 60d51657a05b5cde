/- bailiwicklaw07.FieldCurves: the statement about it: whatever the input: true; the input reads as it did. CONDITIONS: none. (With it, merged: RMl · ROf · RCv · IsDec · Append · Parse · RParse · RBs · RNw · FCurves · FieldCurves.) -/
import Derived.Test.YtfgefifplmhopaaXE1
import Derived.Test.YtfgefifplmhopaaM1
import Derived.BigQuiet
import Derived.WalkKit
import Derived.Laws.Strings
import Derived.Test.YtfgefifplmhopaaM2
import Derived.Test.YtfgefifplmhopaaM3
import Derived.BigRegion
import Derived.IntWalk
import Derived.Test.YtfgefifplmhopaaM5
import Derived.Test.YtfgefifplmhopaaM8
namespace Go.Proofs.Ytfgefifplmhopaa
open Go.RowKit
/-- The reference's field, whole. -/
def RFld (w : World) (G m : Nat) : Prop := ∃ lo, lo < 4294967296 ∧ (lo * qN m 0 + 1) % 4294967296 = 0 ∧ RFat w G m lo (115792089237316195423570985008687907853269984665640564039457584007913129639936 * 115792089237316195423570985008687907853269984665640564039457584007913129639936 % m)
theorem RFld.below {w w' : World} {G m : Nat} (h : RFld w G m) (hb : Below w.heap.size w w') : RFld w' G m := by
  obtain ⟨lo, h1, h2, h3⟩ := h
  exact ⟨lo, h1, h2, h3.below hb⟩
set_option maxRecDepth 100000 in
set_option maxHeartbeats 2000000 in
theorem rmul_any (G m a b : Nat) (hal : a < m) (hbl : b < m) (hm : m < 115792089237316195423570985008687907853269984665640564039457584007913129639936) (h1 : 1 < m) (ho : m % 2 = 1) (w : World) (hF : RFld w G m) : Calls Try.prog 26 #[(.pointer (some ⟨G, 0, none⟩)), .agg (pw a), .agg (pw b)] w fun e w' => e = .returned (.agg (pw (a * b % m))) ∧ Below w.heap.size w w' := by
  obtain ⟨lo, hll, hlo, hR⟩ := hF
  obtain ⟨sq, hsq⟩ : ∃ sq, 115792089237316195423570985008687907853269984665640564039457584007913129639936 * 115792089237316195423570985008687907853269984665640564039457584007913129639936 % m = sq := ⟨_, rfl⟩
  have hsl : sq < m := by rw [← hsq]; exact Nat.mod_lt _ (by omega)
  have hq : mnt m a sq = a * 115792089237316195423570985008687907853269984665640564039457584007913129639936 % m := by rw [← hsq]; exact mnt_scaled ho h1 a
  have hy : mnt m (a * 115792089237316195423570985008687907853269984665640564039457584007913129639936 % m) b = a * b % m := mnt_back ho h1 a b
  obtain ⟨x, hx⟩ : ∃ x, a * 115792089237316195423570985008687907853269984665640564039457584007913129639936 % m = x := ⟨_, rfl⟩
  obtain ⟨y, hye⟩ : ∃ y, a * b % m = y := ⟨_, rfl⟩
  have hxl : x < m := by rw [← hx]; exact Nat.mod_lt _ (by omega)
  rw [hsq] at hR
  rw [hx] at hq hy
  rw [hye] at hy ⊢
  have HC1 := Lib.hid (fun wx (hf : RFat wx G m lo sq) => rcut_any G m lo sq a sq hal hsl hm h1 ho hll hlo wx hf)
  have HC2 := Lib.hid (fun wx (hf : RFat wx G m lo sq) => rcut_any G m lo sq x b hxl hbl hm h1 ho hll hlo wx hf)
  rw [hq] at HC1
  rw [hy] at HC2
  have H0 := Lib.hid (CRf.two hR a b)
  clear hR hsq hsl hq hy hx hye hxl hal hbl hm h1 ho hll hlo
  go_enter Try.func26, Try.ntmps26
  go_wp2_with fail
  refine region_quiet_tail 10 (CRf w G m lo sq [(w.heap.size + 1 + 1, #[.int .u64 0, .int .u64 0, .int .u64 0, .int .u64 0]), (w.heap.size + 1, pw b), (w.heap.size, pw a)]) (by kernel_rfl) (by kernel_rfl) (H0.out.drew) ?_
  simp only [List.take_succ_cons, List.take_zero, List.drop_succ_cons, List.drop_zero]
  with_reducible refine q_val (.pointer (some ⟨G, 0, none⟩)) (by kernel_rfl) (fun _ _ => by kernel_rfl) ?_
  with_reducible refine q_val (.pointer (some ⟨G, 0, none⟩)) (by kernel_rfl) (fun _ _ => by kernel_rfl) ?_
  with_reducible refine q_load 24 (.tmp 4) (.pointer (some ⟨w.heap.size, 0, none⟩)) (.agg (pw a)) rfl (by kernel_rfl) (by kernel_rfl) (fun _ c => ld_pw (c.is _ _ (by simp))) ?_
  with_reducible refine q_val (.pointer (some ⟨G, 0, none⟩)) (by kernel_rfl) (fun _ _ => by kernel_rfl) ?_
  with_reducible refine q_val (.pointer (some ⟨G, 0, none⟩)) (by kernel_rfl) (fun _ _ => run_nil (.tmp 10) _ rfl (by kernel_rfl)) ?_
  with_reducible refine q_sem2 (Instr.fieldAt 61 (.pointer (some ⟨G, 0, none⟩)) 3) (.pointer (some ⟨G, 13, none⟩)) (by kernel_rfl) (by kernel_rfl) (fun w' _ => (rf_at G w').2.2.2) ?_
  with_reducible refine q_load 24 (.tmp 12) (.pointer (some ⟨G, 13, none⟩)) (.agg (pw sq)) rfl (by kernel_rfl) (by kernel_rfl) (fun _ c => ld_rsq c.fld) ?_
  with_reducible refine q_call 54 #[.pointer (some ⟨G, 0, none⟩), .agg (pw a), .agg (pw sq)] (.agg (pw x)) (by kernel_rfl) (fun _ => by kernel_rfl) (CRf.calls HC1.out) ?_
  with_reducible refine q_load 24 (.tmp 5) (.pointer (some ⟨w.heap.size + 1, 0, none⟩)) (.agg (pw b)) rfl (by kernel_rfl) (by kernel_rfl) (fun _ c => ld_pw (c.is _ _ (by simp))) ?_
  with_reducible refine q_call 54 #[.pointer (some ⟨G, 0, none⟩), .agg (pw x), .agg (pw b)] (.agg (pw y)) (by kernel_rfl) (fun _ => by kernel_rfl) (CRf.calls HC2.out) ?_
  with_reducible refine wpQuiet_nil ?_
  intro wx hC
  have HC := Lib.hid hC
  clear hC H0 HC1 HC2
  simp only [Act.put, List.setIfInBounds_toArray, List.set_cons_succ, List.set_cons_zero]
  go_wp2_with (refine wpList_store_row rfl 24 _ _ rfl (w.heap.size + 1 + 1) (pw y) rfl rfl 24 (#[.int .u64 0, .int .u64 0, .int .u64 0, .int .u64 0]) (by exact HC.out.is _ _ (by simp)) (by rw [pw_size]; exact infoW4) (by first | rfl | (rw [pw_size]; rfl) | (rw [pw_size, pw_size])) (pw_one _) ?_)
  (try simp only [Act.put])
  refine bodyPost_ret (v := .agg (pw y)) (results_cell_row (p := 6) rfl _ _ (w.heap.size + 1 + 1) 24 (pw y) (0, 0) _ rfl (setRow_heap _ _ _ _ _ _ (by exact HC.out.is _ (#[.int .u64 0, .int .u64 0, .int .u64 0, .int .u64 0]) (by simp))) Try.underlying24 rfl (by rw [pw_size]; exact infoW4)) rfl ⟨rfl, below_setRow HC.out.old (by omega) _⟩
end Go.Proofs.Ytfgefifplmhopaa
namespace Go.Proofs.Ytfgefifplmhopaa
open Go.RowKit
theorem rdivmod_pw (a m : Nat) (ha : a < 115792089237316195423570985008687907853269984665640564039457584007913129639936) (h0 : 0 < m) (hm : m < 115792089237316195423570985008687907853269984665640564039457584007913129639936) (w : World) : Calls Try.prog 53 #[.agg (pw a), .agg (pw m)] w fun e w' => e = .returned (.tuple #[.agg (pw (a / m)), .agg (pw (a % m))]) ∧ Below w.heap.size w w' := by
  have h := divmod_ref a m w
  unfold quoV remV at h
  rw [Nat.mod_eq_of_lt ha, Nat.mod_eq_of_lt hm, if_neg (by omega), if_neg (by omega)] at h
  exact h
set_option maxRecDepth 100000 in
set_option maxHeartbeats 2000000 in
theorem rof_any (G m lo sq a : Nat) (ha : a < 115792089237316195423570985008687907853269984665640564039457584007913129639936) (h0 : 0 < m) (hm : m < 115792089237316195423570985008687907853269984665640564039457584007913129639936) (w : World) (hF : RFat w G m lo sq) : Calls Try.prog 25 #[(.pointer (some ⟨G, 0, none⟩)), .agg (pw a)] w fun e w' => e = .returned (.agg (pw (a % m))) ∧ Below w.heap.size w w' := by
  have H0 := Lib.hid (CRf.one hF a)
  have HMO := Lib.hid (fun wx (_ : RFat wx G m lo sq) => moreW_any a m ha hm wx)
  have HDM := Lib.hid (fun wx => rdivmod_pw a m ha h0 hm wx)
  by_cases hq : m ≤ a
  · rw [decide_eq_true hq] at HMO
    obtain ⟨x, hx⟩ : ∃ x, a / m = x := ⟨_, rfl⟩
    obtain ⟨y, hy⟩ : ∃ y, a % m = y := ⟨_, rfl⟩
    rw [hx, hy] at HDM
    rw [hy]
    clear hF ha h0 hm hq hx hy
    go_enter Try.func25, Try.ntmps25
    go_wp2_with fail
    refine wp_region_quiet (C := CRf w G m lo sq [(w.heap.size + 1, #[.int .u64 0, .int .u64 0, .int .u64 0, .int .u64 0]), (w.heap.size, pw a)]) (by kernel_rfl) (by kernel_rfl) (H0.out.drew) ?_
    simp only
    with_reducible refine q_load 24 (.tmp 3) (.pointer (some ⟨w.heap.size, 0, none⟩)) (.agg (pw a)) rfl (by kernel_rfl) (by kernel_rfl) (fun _ c => ld_pw (c.is _ _ (by simp))) ?_
    with_reducible refine q_val (.pointer (some ⟨G, 0, none⟩)) (by kernel_rfl) (fun _ _ => by kernel_rfl) ?_
    with_reducible refine q_val (.pointer (some ⟨G, 0, none⟩)) (by kernel_rfl) (fun _ _ => run_nil (.tmp 8) _ rfl (by kernel_rfl)) ?_
    with_reducible refine q_sem2 (Instr.fieldAt 61 (.pointer (some ⟨G, 0, none⟩)) 0) (.pointer (some ⟨G, 0, none⟩)) (by kernel_rfl) (by kernel_rfl) (fun w' _ => (rf_at G w').1) ?_
    with_reducible refine q_load 24 (.tmp 10) (.pointer (some ⟨G, 0, none⟩)) (.agg (pw m)) rfl (by kernel_rfl) (by kernel_rfl) (fun _ c => ld_rm c.fld) ?_
    with_reducible refine q_call 45 #[.agg (pw a), .agg (pw m)] (.bool true) (by kernel_rfl) (fun _ => by kernel_rfl) (CRf.calls HMO.out) ?_
    with_reducible refine q_un4 .not 4 (.tmp 12) (.bool true) (.bool false) rfl (by kernel_rfl) (by kernel_rfl) (fun w' => by kernel_rfl) ?_
    with_reducible refine wpQuiet_nil ?_
    intro wx hC
    have HC := Lib.hid hC
    clear hC H0 HMO
    simp only [Act.put, List.setIfInBounds_toArray, List.set_cons_succ, List.set_cons_zero]
    go_wp2_with fail
    refine region_many [.val 16 ((.agg (pw a))), .val 17 ((.pointer (some ⟨G, 0, none⟩))), .val 18 ((.pointer (some ⟨G, 0, none⟩))), .val 19 ((.pointer (some ⟨G, 0, none⟩))), .val 20 ((.agg (pw m))), .val 21 ((.tuple #[.agg (pw x), .agg (pw y)])), .val 15 ((.tuple #[.agg (pw x), .agg (pw y)])), .val 22 ((.agg (pw x))), .val 23 ((.agg (pw y))), .blk 5 24, .blk 6 24, .laid 5 24, .laid 6 24] [5, 6] (fun p => if p = 5 then pw x else pw y) (fun i => i) (by kernel_rfl) (by kernel_rfl) (by exact ⟨trivial, trivial, trivial, trivial, trivial, trivial, trivial, trivial, trivial, (by simp [Sp.ok]), (by simp [Sp.ok]), (by simp [Sp.ok]), (by simp [Sp.ok]), trivial⟩) (by intro p hp q hq hne D e; simp only [List.mem_cons, List.not_mem_nil, or_false] at hp; rcases hp with rfl | rfl <;> simp [undef] at e) ?_ ?_
    · refine ⟨?_, ?_, ?_, ?_, ?_, ?_, ?_, ?_, ?_, ?_, ?_, ?_, ?_, trivial⟩
      · intro ac wx hC hsz hK
        have h0 : ac.tmps.getD 3 undef = (.pointer (some ⟨w.heap.size, 0, none⟩)) := hK.1 3 (by kernel_rfl)
        exact mm_load 24 (.tmp 3) ((.pointer (some ⟨w.heap.size, 0, none⟩))) ((.agg (pw a))) rfl rfl (by kernel_rfl) h0 (ld_pw ((HC.out.below hC.1).is _ _ (by simp))) hC (by kernel_rfl) (by rw [hsz]; exact of_decide_eq_true (by kernel_rfl)) rfl
      · intro ac wx hC hsz hK
        have h0 : ac.tmps.getD 0 undef = (.pointer (some ⟨G, 0, none⟩)) := hK.1 0 (by kernel_rfl)
        exact mm_val ((.pointer (some ⟨G, 0, none⟩))) rfl (by kernel_rfl) (by rw [← h0]; kernel_rfl) hC (by kernel_rfl) (by rw [hsz]; exact of_decide_eq_true (by kernel_rfl)) rfl
      · intro ac wx hC hsz hK
        have h0 : ac.tmps.getD 17 undef = (.pointer (some ⟨G, 0, none⟩)) := hK.2 ⟨1, .data⟩ (by simp) rfl _ rfl
        exact mm_val ((.pointer (some ⟨G, 0, none⟩))) rfl (by kernel_rfl) (run_nil (.tmp 17) _ rfl h0) hC (by kernel_rfl) (by rw [hsz]; exact of_decide_eq_true (by kernel_rfl)) rfl
      · intro ac wx hC hsz hK
        have h0 : ac.tmps.getD 18 undef = (.pointer (some ⟨G, 0, none⟩)) := hK.2 ⟨2, .data⟩ (by simp) rfl _ rfl
        refine mm_sem (Instr.fieldAt 61 (ac.tmps.getD 18 undef) 0) ((.pointer (some ⟨G, 0, none⟩))) rfl (by kernel_rfl) (by kernel_rfl) ?_ hC (by kernel_rfl) (by rw [hsz]; exact of_decide_eq_true (by kernel_rfl)) rfl
        rw [h0]
        exact (rf_at G wx).1
      · intro ac wx hC hsz hK
        have h0 : ac.tmps.getD 19 undef = (.pointer (some ⟨G, 0, none⟩)) := hK.2 ⟨3, .data⟩ (by simp) rfl _ rfl
        exact mm_load 24 (.tmp 19) ((.pointer (some ⟨G, 0, none⟩))) ((.agg (pw m))) rfl rfl (by kernel_rfl) h0 (ld_rm (HC.out.below hC.1).fld) hC (by kernel_rfl) (by rw [hsz]; exact of_decide_eq_true (by kernel_rfl)) rfl
      · intro ac wx hC hsz hK
        have h0 : ac.tmps.getD 16 undef = (.agg (pw a)) := hK.2 ⟨0, .data⟩ (by simp) rfl _ rfl
        have h1 : ac.tmps.getD 20 undef = (.agg (pw m)) := hK.2 ⟨4, .data⟩ (by simp) rfl _ rfl
        refine mm_call 53 #[ac.tmps.getD 16 undef, ac.tmps.getD 20 undef] ((.tuple #[.agg (pw x), .agg (pw y)])) rfl (by kernel_rfl) (by kernel_rfl) ?_ hC (by kernel_rfl) (by rw [hsz]; exact of_decide_eq_true (by kernel_rfl)) rfl
        rw [h0, h1]
        exact HDM.out wx
      · intro ac wx hC hsz hK
        have h0 : ac.tmps.getD 21 undef = (.tuple #[.agg (pw x), .agg (pw y)]) := hK.2 ⟨5, .data⟩ (by simp) rfl _ rfl
        exact mm_val ((.tuple #[.agg (pw x), .agg (pw y)])) rfl (by kernel_rfl) (by rw [← h0]; kernel_rfl) hC (by kernel_rfl) (by rw [hsz]; exact of_decide_eq_true (by kernel_rfl)) rfl
      · intro ac wx hC hsz hK
        have h0 : ac.tmps.getD 15 undef = (.tuple #[.agg (pw x), .agg (pw y)]) := hK.2 ⟨6, .data⟩ (by simp) rfl _ rfl
        refine mm_sem (Instr.extract (ac.tmps.getD 15 undef) 0) ((.agg (pw x))) rfl (by kernel_rfl) (by kernel_rfl) ?_ hC (by kernel_rfl) (by rw [hsz]; exact of_decide_eq_true (by kernel_rfl)) rfl
        rw [h0]
        exact (by kernel_rfl)
      · intro ac wx hC hsz hK
        have h0 : ac.tmps.getD 15 undef = (.tuple #[.agg (pw x), .agg (pw y)]) := hK.2 ⟨6, .data⟩ (by simp) rfl _ rfl
        refine mm_sem (Instr.extract (ac.tmps.getD 15 undef) 1) ((.agg (pw y))) rfl (by kernel_rfl) (by kernel_rfl) ?_ hC (by kernel_rfl) (by rw [hsz]; exact of_decide_eq_true (by kernel_rfl)) rfl
        rw [h0]
        exact (by kernel_rfl)
      · intro ac wx hC hsz hK
        exact mm_new 24 (#[.int .u64 0, .int .u64 0, .int .u64 0, .int .u64 0]) rfl (by kernel_rfl) (by kernel_rfl) hC (by simp [pw_size]) (by rw [hsz]; exact of_decide_eq_true (by kernel_rfl)) rfl
      · intro ac wx hC hsz hK
        exact mm_new 24 (#[.int .u64 0, .int .u64 0, .int .u64 0, .int .u64 0]) rfl (by kernel_rfl) (by kernel_rfl) hC (by simp [pw_size]) (by rw [hsz]; exact of_decide_eq_true (by kernel_rfl)) rfl
      · intro ac wx hC hsz hK
        have h0 : ac.tmps.getD 22 undef = (.agg (pw x)) := hK.2 ⟨7, .data⟩ (by simp) rfl _ rfl
        exact mm_store (p := 5) 24 (.tmp 5) (.tmp 22) _ rfl rfl (by kernel_rfl) rfl h0 (by simp) (hK.2 ⟨9, .data⟩ (by simp) rfl _ rfl) (fun D cs h3 h4 => store_w (h4.trans (pw_size _)) h3) hC rfl
      · intro ac wx hC hsz hK
        have h0 : ac.tmps.getD 23 undef = (.agg (pw y)) := hK.2 ⟨8, .data⟩ (by simp) rfl _ rfl
        exact mm_store (p := 6) 24 (.tmp 6) (.tmp 23) _ rfl rfl (by kernel_rfl) rfl h0 (by simp) (hK.2 ⟨10, .data⟩ (by simp) rfl _ rfl) (fun D cs h3 h4 => store_w (h4.trans (pw_size _)) h3) hC rfl
    intro f1 w5 hb5 hap hf5
    obtain ⟨D6, s6, -, r6⟩ := hf5 12 _ rfl
    have H5 := Lib.hid ((HC.out.below hb5).cons r6)
    clear hf5 hap hb5 HC HDM r6
    generalize hAct : putAll _ _ _ = A1 at *
    have s6' : A1.tmps.getD 6 undef = .pointer (some ⟨D6, 0, none⟩) := s6
    have s4 : A1.tmps.getD 4 undef = .pointer (some ⟨w.heap.size + 1, 0, none⟩) := by subst hAct; kernel_rfl
    have hsz : A1.tmps.size = 25 := by rw [← hAct, putAll_size]; rfl
    have hdf : A1.defers = [] := by subst hAct; kernel_rfl
    clear hAct s6 f1
    obtain ⟨u0, t0⟩ : ∃ u, A1.tmps.getD 0 undef = u := ⟨_, rfl⟩
    obtain ⟨u1, t1⟩ : ∃ u, A1.tmps.getD 1 undef = u := ⟨_, rfl⟩
    obtain ⟨u2, t2⟩ : ∃ u, A1.tmps.getD 2 undef = u := ⟨_, rfl⟩
    obtain ⟨u3, t3⟩ : ∃ u, A1.tmps.getD 3 undef = u := ⟨_, rfl⟩
    obtain ⟨u5, t5⟩ : ∃ u, A1.tmps.getD 5 undef = u := ⟨_, rfl⟩
    obtain ⟨u7, t7⟩ : ∃ u, A1.tmps.getD 7 undef = u := ⟨_, rfl⟩
    obtain ⟨u8, t8⟩ : ∃ u, A1.tmps.getD 8 undef = u := ⟨_, rfl⟩
    obtain ⟨u9, t9⟩ : ∃ u, A1.tmps.getD 9 undef = u := ⟨_, rfl⟩
    obtain ⟨u10, t10⟩ : ∃ u, A1.tmps.getD 10 undef = u := ⟨_, rfl⟩
    obtain ⟨u11, t11⟩ : ∃ u, A1.tmps.getD 11 undef = u := ⟨_, rfl⟩
    obtain ⟨u12, t12⟩ : ∃ u, A1.tmps.getD 12 undef = u := ⟨_, rfl⟩
    obtain ⟨u13, t13⟩ : ∃ u, A1.tmps.getD 13 undef = u := ⟨_, rfl⟩
    obtain ⟨u14, t14⟩ : ∃ u, A1.tmps.getD 14 undef = u := ⟨_, rfl⟩
    obtain ⟨u15, t15⟩ : ∃ u, A1.tmps.getD 15 undef = u := ⟨_, rfl⟩
    obtain ⟨u16, t16⟩ : ∃ u, A1.tmps.getD 16 undef = u := ⟨_, rfl⟩
    obtain ⟨u17, t17⟩ : ∃ u, A1.tmps.getD 17 undef = u := ⟨_, rfl⟩
    obtain ⟨u18, t18⟩ : ∃ u, A1.tmps.getD 18 undef = u := ⟨_, rfl⟩
    obtain ⟨u19, t19⟩ : ∃ u, A1.tmps.getD 19 undef = u := ⟨_, rfl⟩
    obtain ⟨u20, t20⟩ : ∃ u, A1.tmps.getD 20 undef = u := ⟨_, rfl⟩
    obtain ⟨u21, t21⟩ : ∃ u, A1.tmps.getD 21 undef = u := ⟨_, rfl⟩
    obtain ⟨u22, t22⟩ : ∃ u, A1.tmps.getD 22 undef = u := ⟨_, rfl⟩
    obtain ⟨u23, t23⟩ : ∃ u, A1.tmps.getD 23 undef = u := ⟨_, rfl⟩
    obtain ⟨u24, t24⟩ : ∃ u, A1.tmps.getD 24 undef = u := ⟨_, rfl⟩
    obtain ⟨tm, df⟩ := A1
    simp only at *
    have hLt := arr_litS tm
    rw [hsz] at hLt
    simp only [List.range, List.range.loop, List.map] at hLt
    rw [t0, t1, t2, t3, s4, t5, s6', t7, t8, t9, t10, t11, t12, t13, t14, t15, t16, t17, t18, t19, t20, t21, t22, t23, t24] at hLt
    subst hLt hdf
    clear t0 t1 t2 t3 s4 t5 s6' t7 t8 t9 t10 t11 t12 t13 t14 t15 t16 t17 t18 t19 t20 t21 t22 t23 t24 hsz
    go_wp2_with (first | (refine wpList_ld rfl 24 _ rfl (.pointer (some ⟨D6, 0, none⟩)) (.agg (pw y)) rfl (ld_pw (by exact H5.out.is _ _ (by simp))) ?_) | (refine wpList_store_row rfl 24 _ _ rfl (w.heap.size + 1) (pw y) rfl rfl 24 (#[.int .u64 0, .int .u64 0, .int .u64 0, .int .u64 0]) (by exact H5.out.is _ _ (by simp)) (by rw [pw_size]; exact infoW4) (by first | rfl | (rw [pw_size]; rfl) | (rw [pw_size, pw_size])) (pw_one _) ?_))
    (try simp only [Act.put])
    refine bodyPost_ret (v := .agg (pw y)) (results_cell_row (p := 4) rfl _ _ (w.heap.size + 1) 24 (pw y) (0, 0) _ rfl (setRow_heap _ _ _ _ _ _ (by exact H5.out.is _ (#[.int .u64 0, .int .u64 0, .int .u64 0, .int .u64 0]) (by simp))) Try.underlying24 rfl (by rw [pw_size]; exact infoW4)) rfl ⟨rfl, below_setRow H5.out.old (by omega) _⟩
  · rw [decide_eq_false hq] at HMO
    have HQ := Lib.hid (show a % m = a from Nat.mod_eq_of_lt (by omega))
    rw [HQ.out]
    clear hF ha h0 hm hq HDM HQ
    go_enter Try.func25, Try.ntmps25
    go_wp2_with fail
    refine wp_region_quiet (C := CRf w G m lo sq [(w.heap.size + 1, #[.int .u64 0, .int .u64 0, .int .u64 0, .int .u64 0]), (w.heap.size, pw a)]) (by kernel_rfl) (by kernel_rfl) (H0.out.drew) ?_
    simp only
    with_reducible refine q_load 24 (.tmp 3) (.pointer (some ⟨w.heap.size, 0, none⟩)) (.agg (pw a)) rfl (by kernel_rfl) (by kernel_rfl) (fun _ c => ld_pw (c.is _ _ (by simp))) ?_
    with_reducible refine q_val (.pointer (some ⟨G, 0, none⟩)) (by kernel_rfl) (fun _ _ => by kernel_rfl) ?_
    with_reducible refine q_val (.pointer (some ⟨G, 0, none⟩)) (by kernel_rfl) (fun _ _ => run_nil (.tmp 8) _ rfl (by kernel_rfl)) ?_
    with_reducible refine q_sem2 (Instr.fieldAt 61 (.pointer (some ⟨G, 0, none⟩)) 0) (.pointer (some ⟨G, 0, none⟩)) (by kernel_rfl) (by kernel_rfl) (fun w' _ => (rf_at G w').1) ?_
    with_reducible refine q_load 24 (.tmp 10) (.pointer (some ⟨G, 0, none⟩)) (.agg (pw m)) rfl (by kernel_rfl) (by kernel_rfl) (fun _ c => ld_rm c.fld) ?_
    with_reducible refine q_call 45 #[.agg (pw a), .agg (pw m)] (.bool false) (by kernel_rfl) (fun _ => by kernel_rfl) (CRf.calls HMO.out) ?_
    with_reducible refine q_un4 .not 4 (.tmp 12) (.bool false) (.bool true) rfl (by kernel_rfl) (by kernel_rfl) (fun w' => by kernel_rfl) ?_
    with_reducible refine wpQuiet_nil ?_
    intro wx hC
    have HC := Lib.hid hC
    clear hC H0 HMO
    simp only [Act.put, List.setIfInBounds_toArray, List.set_cons_succ, List.set_cons_zero]
    go_wp2_with (first | (refine wpList_ld rfl 24 _ rfl (.pointer (some ⟨w.heap.size, 0, none⟩)) (.agg (pw a)) rfl (ld_pw (by exact HC.out.is _ _ (by simp))) ?_) | (refine wpList_store_row rfl 24 _ _ rfl (w.heap.size + 1) (pw a) rfl rfl 24 (#[.int .u64 0, .int .u64 0, .int .u64 0, .int .u64 0]) (by exact HC.out.is _ _ (by simp)) (by rw [pw_size]; exact infoW4) (by first | rfl | (rw [pw_size]; rfl) | (rw [pw_size, pw_size])) (pw_one _) ?_))
    (try simp only [Act.put])
    refine bodyPost_ret (v := .agg (pw a)) (results_cell_row (p := 4) rfl _ _ (w.heap.size + 1) 24 (pw a) (0, 0) _ rfl (setRow_heap _ _ _ _ _ _ (by exact HC.out.is _ (#[.int .u64 0, .int .u64 0, .int .u64 0, .int .u64 0]) (by simp))) Try.underlying24 rfl (by rw [pw_size]; exact infoW4)) rfl ⟨rfl, below_setRow HC.out.old (by omega) _⟩
end Go.Proofs.Ytfgefifplmhopaa
namespace Go.Proofs.Ytfgefifplmhopaa
open Go.RowKit
set_option maxRecDepth 100000 in
theorem rcurve_any (w : World) : Calls Try.prog 22 #[] w fun e w' => e = .returned (.agg (pw 115792089237316195423570985008687907853269984665640564039457584007908834671663)) ∧ Below w.heap.size w w' := by
  go_enter Try.func22, Try.ntmps22
  go_wp2_with (refine wpList_store_row rfl 24 _ _ rfl w.heap.size (pw 115792089237316195423570985008687907853269984665640564039457584007908834671663) rfl (by kernel_rfl) 24 (#[.int .u64 0, .int .u64 0, .int .u64 0, .int .u64 0]) (heap_alloc_new _ _) (by rw [pw_size]; exact infoW4) (by rw [pw_size]; rfl) (pw_one _) ?_)
  (try simp only [Act.put])
  refine bodyPost_ret (v := .agg (pw 115792089237316195423570985008687907853269984665640564039457584007908834671663)) (results_cell_row (p := 0) rfl _ _ (w.heap.size) 24 (pw 115792089237316195423570985008687907853269984665640564039457584007908834671663) (0, 0) _ rfl (setRow_heap _ _ _ _ _ _ (by exact heap_alloc_new _ _)) Try.underlying24 rfl (by rw [pw_size]; exact infoW4)) rfl ⟨rfl, below_setRow ((Below.refl _ _).alloc (Nat.le_refl _) _) (Nat.le_refl _) _⟩
set_option maxRecDepth 100000 in
theorem rorder_any (w : World) : Calls Try.prog 23 #[] w fun e w' => e = .returned (.agg (pw 115792089237316195423570985008687907852837564279074904382605163141518161494337)) ∧ Below w.heap.size w w' := by
  go_enter Try.func23, Try.ntmps23
  go_wp2_with (refine wpList_store_row rfl 24 _ _ rfl w.heap.size (pw 115792089237316195423570985008687907852837564279074904382605163141518161494337) rfl (by kernel_rfl) 24 (#[.int .u64 0, .int .u64 0, .int .u64 0, .int .u64 0]) (heap_alloc_new _ _) (by rw [pw_size]; exact infoW4) (by rw [pw_size]; rfl) (pw_one _) ?_)
  (try simp only [Act.put])
  refine bodyPost_ret (v := .agg (pw 115792089237316195423570985008687907852837564279074904382605163141518161494337)) (results_cell_row (p := 0) rfl _ _ (w.heap.size) 24 (pw 115792089237316195423570985008687907852837564279074904382605163141518161494337) (0, 0) _ rfl (setRow_heap _ _ _ _ _ _ (by exact heap_alloc_new _ _)) Try.underlying24 rfl (by rw [pw_size]; exact infoW4)) rfl ⟨rfl, below_setRow ((Below.refl _ _).alloc (Nat.le_refl _) _) (Nat.le_refl _) _⟩
end Go.Proofs.Ytfgefifplmhopaa
namespace Go.Proofs.Ytfgefifplmhopaa
open Go.RowKit

theorem bytes_ne {s : ByteArray} (h0 : 0 < s.size) : ¬ s.toList = [] ∧ s.toList.isEmpty = false := by
  have h : ¬ s.toList = [] := fun h => by
    rw [ByteArray.toList_eq] at h
    have h2 : s.data.size = 0 := by
      have := congrArg List.length h
      simpa using this
    have h3 : 0 < s.data.size := h0
    omega
  exact ⟨h, by simpa using h⟩


end Go.Proofs.Ytfgefifplmhopaa
namespace Go.Proofs.Ytfgefifplmhopaa
open Go.RowKit

theorem But.drew1 {S : Nat} {w w' : World} (h : But S w w') : But S w w'.drew := ⟨h.os, h.tape, h.output, h.size, h.block, h.frozen⟩
/-- What appendDigit leaves. -/
def AdPost (B r0 r1 r2 r3 : Nat) (b : Bool) (w : World) (e : Ending) (w' : World) : Prop :=
  e = .returned (.bool b) ∧ But B w w' ∧ w'.heap[B]? = some (.cells #[.int .u64 r0, .int .u64 r1, .int .u64 r2, .int .u64 r3] 24 (0, 0))

theorem append_num {n0 n1 n2 n3 r0 r1 r2 r3 k0 k1 k2 k3 d : Nat} (h0 : r0 + 18446744073709551616 * k0 = n0 * 10 + 0 + d) (h1 : r1 + 18446744073709551616 * k1 = n1 * 10 + 0 + k0) (h2 : r2 + 18446744073709551616 * k2 = n2 * 10 + 0 + k1) (h3 : r3 + 18446744073709551616 * k3 = n3 * 10 + 0 + k2) :
    n4 r0 r1 r2 r3 + 115792089237316195423570985008687907853269984665640564039457584007913129639936 * k3 = n4 n0 n1 n2 n3 * 10 + d := by
  unfold n4; omega
/-- .. over numbers: the word behind the pointer is ten times as much and the digit, if that fits in. -/
def AdNum (B X d : Nat) (w : World) (e : Ending) (w' : World) : Prop :=
  e = .returned (.bool (decide (X * 10 + d < 115792089237316195423570985008687907853269984665640564039457584007913129639936))) ∧ But B w w' ∧ w'.heap[B]? = some (.cells (pw (X * 10 + d)) 24 (0, 0))
end Go.Proofs.Ytfgefifplmhopaa
namespace Go.Proofs.Ytfgefifplmhopaa
open Go.RowKit

/-- The number of n digits, the highest first. -/
def dnum (f : Nat → Nat) : Nat → Nat
  | 0 => 0
  | n + 1 => dnum f n * 10 + f n
theorem dnum_mono (f : Nat → Nat) (k : Nat) : ∀ e, dnum f k ≤ dnum f (k + e)
  | 0 => Nat.le_refl _
  | e + 1 => Nat.le_trans (dnum_mono f k e) (by show dnum f (k + e) ≤ dnum f (k + e) * 10 + f (k + e); omega)
/-- What Parse leaves where it is digits that it reads. -/
def ParsePost (V : Nat) (w : World) (e : Ending) (w' : World) : Prop := e = .returned (if V < 115792089237316195423570985008687907853269984665640564039457584007913129639936 then .tuple #[.agg (pw V), .int .i64 0] else .tuple #[.agg #[.int .u64 0, .int .u64 0, .int .u64 0, .int .u64 0], .int .i64 2]) ∧ Below w.heap.size w w'
theorem results_ct {fn : Func} {p q : Tmp} (h : fn.results = #[.cell p 24, .tmp q]) (tmps : Array Value) (w : World) (g : Nat) (cs : Array Value) (v : Value)
    (hp : tmps.getD p undef = .pointer (some ⟨g, 0, none⟩)) (hq : tmps.getD q undef = v) (hg : w.heap[g]? = some (.cells cs 24 (0, 0))) (hi : (Try.prog.info? 24).map (·.size) = some cs.size) :
    (results fn tmps).run Try.prog w = .ok (.tuple #[.agg cs, v]) w := by
  have hp' : tmps[p]?.getD undef = .pointer (some ⟨g, 0, none⟩) := by simpa using hp
  have hq' : tmps[q]?.getD undef = v := by simpa using hq
  simp [results, h, hp', hq', asAddr, run_loadVar_row w g 24 24 cs (0, 0) _ hg Try.underlying24 rfl hi]

end Go.Proofs.Ytfgefifplmhopaa
namespace Go.Proofs.Ytfgefifplmhopaa
open Go.RowKit

theorem ds_one (w : World) (x : Nat) (hx : x < 65536) : DS 1 x (.slice (some ⟨w.heap.size, 0, none⟩) 1 1) (w.alloc (.cells #[.int .u64 (x : Nat)] 22)) :=
  ⟨w.heap.size, 1, fun _ => x, rfl, dg_one w x, fun _ _ => hx, by simp [vd]⟩
theorem sum_dsl {n m A B : Nat} {a b : Value} {w : World} (hn : n ≤ 1000) (hm : m ≤ 1000) (ha : DS n A a w) (hb : DS m B b w) : Calls Try.prog 33 #[a, b] w fun e w' => ∃ v, e = .returned v ∧ Below w.heap.size w w' ∧ DS (max n m + 1) (A + B) v w' := by
  obtain ⟨ba, ca, da, rfl, hA, hal, rfl⟩ := ha
  obtain ⟨bb, cb, db, rfl, hB, hbl, rfl⟩ := hb
  exact (sum_any ba ca bb cb n m da db (by omega) (by omega) hal hbl w hA hB).mono fun _ _ h => mk_ds h
theorem product_dsl {n m A B : Nat} {a b : Value} {w : World} (hn : n ≤ 1000) (hm : m ≤ 1000) (ha : DS n A a w) (hb : DS m B b w) : Calls Try.prog 42 #[a, b] w fun e w' => ∃ v, e = .returned v ∧ Below w.heap.size w w' ∧ DS (n + m) (A * B) v w' := by
  obtain ⟨ba, ca, da, rfl, hA, hal, rfl⟩ := ha
  obtain ⟨bb, cb, db, rfl, hB, hbl, rfl⟩ := hb
  exact (product_digits ba ca bb cb n m da db (by omega) (by omega) hal hbl w hA hB).mono fun _ _ h => mk_ds h
theorem w16 : 65536 ^ 16 = 115792089237316195423570985008687907853269984665640564039457584007913129639936 := by rfl
/-- The worlds of a round: the digits so far lie in a slice; the result's block is still nought. -/
structure CQ (w : World) (n V : Nat) (v : Value) (wx : World) : Prop where
  old : Below w.heap.size w wx
  r0 : wx.heap[w.heap.size]? = some (.cells #[.int .u64 0, .int .u64 0, .int .u64 0, .int .u64 0] 24 (0, 0))
  ds : DS n V v wx
theorem CQ.below {w wx w' : World} {n V : Nat} {v : Value} (h : CQ w n V v wx) (hb : Below wx.heap.size wx w') : CQ w n V v w' :=
  ⟨h.old.trans (hb.mono h.old.size), (hb.block _ (Array.getElem?_eq_some_iff.1 h.r0).1).trans h.r0, h.ds.keep (RN.of hb)⟩
theorem CQ.drew {w wx : World} {n V : Nat} {v : Value} (h : CQ w n V v wx) : CQ w n V v wx.drew := ⟨h.old.drew, h.r0, h.ds⟩

set_option maxRecDepth 100000 in
set_option maxHeartbeats 4000000 in
theorem rparse_walk (s : ByteArray) (f : Nat → Nat) (w : World) (h0 : 0 < s.size) (hn : s.size ≤ 78) (hlead : 1 < s.size → ¬ ((s[0]'h0).toNat : Int) = 48) (hf : ∀ j (hj : j < s.size), s[j].toNat = f j + 48 ∧ f j ≤ 9) :
    Calls Try.prog 52 #[.string s] w (ParsePost (dnum f s.size) w) := by
  have e3 : (s.size : Int) ≤ 78 := by omega
  have e0 : ¬ (s.size : Int) = 0 := by omega
  have e4 : ¬ s = ByteArray.empty := fun h => by rw [h] at h0; exact absurd h0 (by decide)
  have e5 : ((s.size : Int) == 0) = false := by rw [beq_eq_false_iff_ne]; exact e0
  have HF := Lib.hid hf; clear hf
  by_cases h1 : 1 < s.size
  · have hz := hlead h1
    have e1 : (1 : Int) < s.size := by omega
    have e6 : (((s[0]'h0).toNat : Int) == 48) = false := by rw [beq_eq_false_iff_ne]; exact hz
    clear hlead
    go_enter Try.func52, Try.ntmps52
    go_wp2_with fail
    go_loopw [4, 5] (fun v iv wr => ∃ k : Nat, k ≤ s.size ∧ iv = .int .i64 k ∧ Hid (CQ w (2 * k) (dnum f k) v wr)) (fun _ iv _ => s.size - (intOf iv).toNat)
    case atStart => exact ⟨0, by omega, rfl, Lib.hid ⟨by go_grown, (heap2 _ _ _).1, ⟨_, _, fun _ => 0, rfl, ⟨by simp, fun j hj => by omega⟩, fun j hj => by omega, rfl⟩⟩⟩
    case round =>
      obtain ⟨k, hk, rfl, H⟩ := hrel
      have hk0 : (0 : Int) ≤ k := by omega
      have hk1 : (k : Int) ≤ 78 := by omega
      by_cases hlt : k < s.size
      · have hki : (k : Int) < s.size := by omega
        obtain ⟨d1, d2⟩ := HF.out k hlt
        obtain ⟨d, hd⟩ : ∃ d, f k = d := ⟨_, rfl⟩
        rw [hd] at d1 d2
        have hb1 : ¬ ((s[k].toNat : Nat) : Int) < 48 := by omega
        have hb2 : ¬ (57 : Int) < ((s[k].toNat : Nat) : Int) := by omega
        have hb3 : ((s[k].toNat : Nat) : Int) - 48 = (d : Int) := by omega
        have hw8 : IntKind.u8.wrap (d : Int) = (d : Int) := by rw [IntKind.wrap_u8]; omega
        have hw64 : IntKind.u64.wrap (d : Int) = (d : Int) := by rw [IntKind.wrap_u64]; omega
        have hnx : dnum f (k + 1) = dnum f k * 10 + d := by rw [dnum, hd]
        have HNX := Lib.hid hnx; clear hnx hd d1
        have HD9 := Lib.hid d2; clear d2
        have hix : ∀ w, (Instr.index 9 (.string s) (.int .i64 k)).run Try.prog w = .ok (.int .u8 (s[k].toNat : Nat)) w := fun w => by go_simp
        have hsb : ∀ w, (binOp BinOp.sub 5 (.int .u8 (s[k].toNat : Nat)) (.int .u8 48)).run Try.prog w = .ok (.int .u8 (d : Nat)) w := fun w => by go_simp
        have hcv : ∀ w, (convert 5 22 (.int .u8 (d : Nat))).run Try.prog w = .ok (.int .u64 (d : Nat)) w := fun w => by go_simp
        have hmx : max (2 * k + 1) 1 + 1 = 2 * (k + 1) := by omega
        have HIX := Lib.hid hix; clear hix
        have HSB := Lib.hid hsb; clear hsb
        have HCV := Lib.hid hcv; clear hcv
        have HMX := Lib.hid hmx; clear hmx
        go_wp2_with fail
        refine region_tie3 (CQ w (2 * k) (dnum f k) u4) (fun i sl wx => match i with | 0 => sl 44 = u4 | 1 => DS 1 10 (sl 45) wx | 2 => DS (2 * k + 1) (dnum f k * 10) (sl 46) wx | 3 => sl 47 = .string s | 4 => sl 48 = .int .i64 k | 5 => sl 49 = .int .u8 (s[k].toNat : Nat) | 6 => sl 50 = .int .u8 (d : Nat) | 7 => sl 51 = .int .u64 (d : Nat) | 8 => DS 1 d (sl 52) wx | 9 => DS (2 * (k + 1)) (dnum f k * 10 + d) (sl 53) wx | 10 => DS (2 * (k + 1)) (dnum f k * 10 + d) (sl 4) wx | _ => True) RN (fun i => match i with | 0 => [44] | 1 => [45] | 2 => [46] | 3 => [47] | 4 => [48] | 5 => [49] | 6 => [50] | 7 => [51] | 8 => [52] | 9 => [53] | 10 => [4] | _ => []) (fun i => i) (by kernel_rfl) (by kernel_rfl) H.out.drew ?_ ?_ ?_ ?_
        · intro i sl sl' wx he hp
          match i, he, hp with
          | 0, he, hp => exact (he 44 (by simp)).symm.trans hp
          | 1, he, hp => have h := he 45 (by simp); rw [h] at hp; exact hp
          | 2, he, hp => have h := he 46 (by simp); rw [h] at hp; exact hp
          | 3, he, hp => exact (he 47 (by simp)).symm.trans hp
          | 4, he, hp => exact (he 48 (by simp)).symm.trans hp
          | 5, he, hp => exact (he 49 (by simp)).symm.trans hp
          | 6, he, hp => exact (he 50 (by simp)).symm.trans hp
          | 7, he, hp => exact (he 51 (by simp)).symm.trans hp
          | 8, he, hp => have h := he 52 (by simp); rw [h] at hp; exact hp
          | 9, he, hp => have h := he 53 (by simp); rw [h] at hp; exact hp
          | 10, he, hp => have h := he 4 (by simp); rw [h] at hp; exact hp
          | _ + 11, _, _ => trivial
        · intro i sl wa wb hR hp
          match i, hp with
          | 0, hp => exact hp
          | 1, hp => exact hp.keep hR
          | 2, hp => exact hp.keep hR
          | 3, hp => exact hp
          | 4, hp => exact hp
          | 5, hp => exact hp
          | 6, hp => exact hp
          | 7, hp => exact hp
          | 8, hp => exact hp.keep hR
          | 9, hp => exact hp.keep hR
          | 10, hp => exact hp.keep hR
          | _ + 11, _ => trivial
        · refine ⟨?_, ?_, ?_, ?_, ?_, ?_, ?_, ?_, ?_, ?_, ?_, trivial⟩
          · intro a wx hC hsz hK
            exact vv_val u4 (by kernel_rfl) (by rw [← show a.tmps.getD 4 undef = u4 from hK.1 4 (by kernel_rfl)]; kernel_rfl) hC (slots_put _ _ _ (by rw [hsz]; exact of_decide_eq_true (by kernel_rfl))) (RN.refl _)
          · intro a wx hC hsz hK
            have hb : Below wx.heap.size wx (wx.alloc (.cells #[.int .u64 (10 : Nat)] 22)) := (Below.refl _ _).alloc (Nat.le_refl _) _
            refine vv_v (Instr.buildSlice 50 1 #[(0, .int .u64 10)]) (.slice (some ⟨wx.heap.size, 0, none⟩) 1 1) (by kernel_rfl) (by kernel_rfl) (w' := wx.alloc (.cells #[.int .u64 (10 : Nat)] 22)) (by kernel_rfl) (hC.below hb) ?_ (RN.of hb)
            show DS 1 10 _ _
            rw [slots_put _ _ _ (by rw [hsz]; exact of_decide_eq_true (by kernel_rfl))]
            exact ds_one wx 10 (by omega)
          · intro a wx hC hsz hK
            have h0 : a.tmps.getD 44 undef = u4 := hK.2 ⟨0, .data⟩ (by simp) rfl _ rfl
            have h1 := hK.2 ⟨1, .data⟩ (by simp) rfl _ rfl
            refine vv_call 42 #[a.tmps.getD 44 undef, a.tmps.getD 45 undef] (by kernel_rfl) (by kernel_rfl) ?_
            rw [h0]
            refine Calls.mono (product_dsl (by omega) (by omega) hC.ds h1) ?_
            rintro e w' ⟨v, rfl, hb, hv⟩
            exact ⟨v, rfl, hC.below hb, (by rw [slots_put _ _ _ (by rw [hsz]; exact of_decide_eq_true (by kernel_rfl))]; exact hv), RN.of hb⟩
          · intro a wx hC hsz hK
            exact vv_val (.string s) (by kernel_rfl) (by rw [← show a.tmps.getD 0 undef = .string s from hK.1 0 (by kernel_rfl)]; kernel_rfl) hC (slots_put _ _ _ (by rw [hsz]; exact of_decide_eq_true (by kernel_rfl))) (RN.refl _)
          · intro a wx hC hsz hK
            exact vv_val (.int .i64 k) (by kernel_rfl) (by rw [← show a.tmps.getD 5 undef = .int .i64 k from hK.1 5 (by kernel_rfl)]; kernel_rfl) hC (slots_put _ _ _ (by rw [hsz]; exact of_decide_eq_true (by kernel_rfl))) (RN.refl _)
          · intro a wx hC hsz hK
            have h0 : a.tmps.getD 47 undef = .string s := hK.2 ⟨3, .data⟩ (by simp) rfl _ rfl
            have h1 : a.tmps.getD 48 undef = .int .i64 k := hK.2 ⟨4, .data⟩ (by simp) rfl _ rfl
            refine vv_v (Instr.index 9 (a.tmps.getD 47 undef) (a.tmps.getD 48 undef)) (.int .u8 (s[k].toNat : Nat)) (by kernel_rfl) rfl ?_ hC (slots_put _ _ _ (by rw [hsz]; exact of_decide_eq_true (by kernel_rfl))) (RN.refl _)
            rw [h0, h1]; exact HIX.out wx
          · intro a wx hC hsz hK
            have h0 : a.tmps.getD 49 undef = .int .u8 (s[k].toNat : Nat) := hK.2 ⟨5, .data⟩ (by simp) rfl _ rfl
            refine vv_v (do eqGuard .sub 5 (.tmp 49) (.const (.int .u8 48)) (a.tmps.getD 49 undef) (.int .u8 48); binOp .sub 5 (a.tmps.getD 49 undef) (.int .u8 48)) (.int .u8 (d : Nat)) (by kernel_rfl) rfl ?_ hC (slots_put _ _ _ (by rw [hsz]; exact of_decide_eq_true (by kernel_rfl))) (RN.refl _)
            rw [h0]
            have hg : (eqGuard .sub 5 (.tmp 49) (.const (.int .u8 48)) (.int .u8 (s[k].toNat : Nat)) (.int .u8 48)).run Try.prog wx = .ok () wx := by kernel_rfl
            simp only [Sem.run_bind, hg, HSB.out wx, Result.andThen_ok]
          · intro a wx hC hsz hK
            have h0 : a.tmps.getD 50 undef = .int .u8 (d : Nat) := hK.2 ⟨6, .data⟩ (by simp) rfl _ rfl
            refine vv_v (convert 5 22 (a.tmps.getD 50 undef)) (.int .u64 (d : Nat)) (by kernel_rfl) rfl ?_ hC (slots_put _ _ _ (by rw [hsz]; exact of_decide_eq_true (by kernel_rfl))) (RN.refl _)
            rw [h0]; exact HCV.out wx
          · intro a wx hC hsz hK
            have h0 : a.tmps.getD 51 undef = .int .u64 (d : Nat) := hK.2 ⟨7, .data⟩ (by simp) rfl _ rfl
            have hb : Below wx.heap.size wx (wx.alloc (.cells #[.int .u64 (d : Nat)] 22)) := (Below.refl _ _).alloc (Nat.le_refl _) _
            refine vv_v (Instr.buildSlice 50 1 #[(0, a.tmps.getD 51 undef)]) (.slice (some ⟨wx.heap.size, 0, none⟩) 1 1) (by kernel_rfl) (by kernel_rfl) (w' := wx.alloc (.cells #[.int .u64 (d : Nat)] 22)) (by rw [h0]; kernel_rfl) (hC.below hb) ?_ (RN.of hb)
            show DS 1 d _ _
            rw [slots_put _ _ _ (by rw [hsz]; exact of_decide_eq_true (by kernel_rfl))]
            exact ds_one wx d (by have := HD9.out; omega)
          · intro a wx hC hsz hK
            have h0 := hK.2 ⟨2, .data⟩ (by simp) rfl _ rfl
            have h1 := hK.2 ⟨8, .data⟩ (by simp) rfl _ rfl
            refine vv_call 33 #[a.tmps.getD 46 undef, a.tmps.getD 52 undef] (by kernel_rfl) (by kernel_rfl) ?_
            have hs := sum_dsl (w := wx) (by omega) (by omega) h0 h1
            rw [HMX.out] at hs
            refine Calls.mono hs ?_
            rintro e w' ⟨v, rfl, hb, hv⟩
            exact ⟨v, rfl, hC.below hb, (by rw [slots_put _ _ _ (by rw [hsz]; exact of_decide_eq_true (by kernel_rfl))]; exact hv), RN.of hb⟩
          · intro a wx hC hsz hK
            have h0 := hK.2 ⟨9, .data⟩ (by simp) rfl _ rfl
            exact vv_val (a.tmps.getD 53 undef) (by kernel_rfl) (by kernel_rfl) hC (by rw [slots_put _ _ _ (by rw [hsz]; exact of_decide_eq_true (by kernel_rfl))]; exact h0) (RN.refl _)
        · intro fv wx hC hf
          have h4 : DS (2 * (k + 1)) (dnum f k * 10 + d) (slots (putAll fv _ _) 4) wx := hf 10 _ rfl
          clear hf
          have HC := Lib.hid hC; clear hC
          generalize e4 : slots (putAll fv _ _) 4 = v4 at h4
          have H5 := Lib.hid h4; clear h4
          simp only [putAll, Act.put, slots, List.setIfInBounds_toArray, List.set_cons_succ, List.set_cons_zero] at e4 ⊢
          simp only [Array.getD_eq_getD_getElem?, List.getElem?_toArray, List.getElem?_cons_succ, List.getElem?_cons_zero, Option.getD_some] at e4
          rw [e4]
          clear e4
          go_wp2_with fail
          go_roundw
          case rel => exact ⟨k + 1, by omega, by go_num, Lib.hid ⟨HC.out.old, HC.out.r0, by rw [HNX.out]; exact H5.out⟩⟩
          case measure => first | (simp [intOf]; done) | (simp [intOf]; omega)
      · obtain rfl : k = s.size := by omega
        obtain ⟨hold, hr0, b, cap, dd, hsv, hD, hdl, hdv⟩ := H.out
        subst hsv
        have HR := Lib.hid (And.intro hold (And.intro hr0 (And.intro hD (And.intro hdl hdv)))); clear hold hr0 hD hdl hdv H
        obtain ⟨n2, hn2⟩ : ∃ n2, 2 * s.size = n2 := ⟨_, rfl⟩
        rw [hn2] at HR ⊢
        have hn3 : (n2 : Int) ≤ 156 := by omega
        clear hn2
        go_wp2_with fail
        go_loop [6] (fun iv => ∃ j : Nat, 16 ≤ j ∧ iv = .int .i64 j ∧ Hid (∀ t, 16 ≤ t → t < j → t < n2 → dd t = 0)) (fun iv => n2 - (intOf iv).toNat)
        case atStart => exact ⟨16, by omega, rfl, Lib.hid (fun t h1 h2 => by omega)⟩
        case round =>
          obtain ⟨j, hj, rfl, HZ⟩ := hrel
          have hj0 : (0 : Int) ≤ j := by omega
          by_cases hjn : j < n2
          · have hjn' : (j : Int) < n2 := by omega
            have cj := HR.out.2.2.1.2 j hjn
            by_cases hdz : dd j = 0
            · have e1 : (((dd j : Nat) : Int) != 0) = false := by simp [hdz]
              have HDZ := Lib.hid hdz; clear hdz
              go_wp2_with fail
              go_round
              case rel => exact ⟨j + 1, by omega, by go_num, Lib.hid (fun t h1 h2 h3 => by
                by_cases e : t = j
                · rw [e]; exact HDZ.out
                · exact HZ.out t h1 (by omega) h3)⟩
              case measure => first | (simp [intOf]; done) | (simp [intOf]; omega)
            · have e1 : (((dd j : Nat) : Int) != 0) = true := by simp [hdz]
              have hbig : ¬ dnum f s.size < 115792089237316195423570985008687907853269984665640564039457584007913129639936 := fun hlt => hdz (vd_small (n := 16) (m := n2) (by rw [HR.out.2.2.2.2, w16]; exact hlt) j hj hjn)
              have HBIG := Lib.hid hbig; clear hbig hdz
              go_wp2_with (refine wpList_store_row rfl 24 _ _ rfl w.heap.size #[.int .u64 0, .int .u64 0, .int .u64 0, .int .u64 0] rfl rfl 24 #[.int .u64 0, .int .u64 0, .int .u64 0, .int .u64 0] HR.out.2.1 infoWord rfl (by simp [Value.oneCell']) ?_)
              (try simp only [Exit.inBlock, Exit.then])
              exact bodyPost_ret (v := .tuple #[.agg #[.int .u64 0, .int .u64 0, .int .u64 0, .int .u64 0], .int .i64 2]) (results_ct (p := 2) (q := 3) rfl _ _ w.heap.size _ _ rfl rfl (setRow_heap _ _ _ _ _ _ HR.out.2.1) infoWord) rfl ⟨by rw [if_neg HBIG.out], below_setRow HR.out.1 (Nat.le_refl _) _⟩
          · have hjn' : ¬ (j : Int) < n2 := by omega
            have hfit : dnum f s.size < 115792089237316195423570985008687907853269984665640564039457584007913129639936 := by
              have h := vd_full (d := dd) (min 16 n2) n2 (fun t h1 h2 => HZ.out t (by omega) (by omega) h2) (by omega)
              rw [← HR.out.2.2.2.2, h]
              refine Nat.lt_of_lt_of_le (vd_lt (fun t ht => HR.out.2.2.2.1 t (by omega))) ?_
              have := Nat.pow_le_pow_right (show 0 < 65536 by omega) (show min 16 n2 ≤ 16 by omega)
              rwa [w16] at this
            have HFIT := Lib.hid hfit; clear hfit
            have HWD : Hid (Calls Try.prog 35 #[.slice (some ⟨b, 0, none⟩) n2 cap] wr fun e w' => e = .returned (.agg (pw (dnum f s.size))) ∧ Below wr.heap.size wr w') := Lib.hid (by
              have h := word_any b cap n2 dd (by omega) HR.out.2.2.2.1 wr HR.out.2.2.1
              rw [HR.out.2.2.2.2] at h
              exact h)
            go_wp2_with fail
            refine HWD.out.mono ?_
            rintro e w1 ⟨rfl, hb⟩
            have h1 := (hb.block _ (Array.getElem?_eq_some_iff.1 HR.out.2.1).1).trans HR.out.2.1
            have H1 := Lib.hid (And.intro h1 (HR.out.1.trans (hb.mono HR.out.1.size))); clear h1 hb
            go_wp2_with (refine wpList_store_row rfl 24 _ _ rfl w.heap.size (pw (dnum f s.size)) rfl rfl 24 #[.int .u64 0, .int .u64 0, .int .u64 0, .int .u64 0] H1.out.1 infoWord rfl (pw_one _) ?_)
            (try simp only [Exit.inBlock, Exit.then])
            exact bodyPost_ret (v := .tuple #[.agg (pw (dnum f s.size)), .int .i64 0]) (results_ct (p := 2) (q := 3) rfl _ _ w.heap.size _ _ rfl rfl (setRow_heap _ _ _ _ _ _ H1.out.1) infoWord) rfl ⟨by rw [if_pos HFIT.out], below_setRow H1.out.2 (Nat.le_refl _) _⟩
  · have e1 : ¬ (1 : Int) < s.size := by omega
    clear hlead
    go_enter Try.func52, Try.ntmps52
    go_wp2_with fail
    go_loopw [4, 5] (fun v iv wr => ∃ k : Nat, k ≤ s.size ∧ iv = .int .i64 k ∧ Hid (CQ w (2 * k) (dnum f k) v wr)) (fun _ iv _ => s.size - (intOf iv).toNat)
    case atStart => exact ⟨0, by omega, rfl, Lib.hid ⟨by go_grown, (heap2 _ _ _).1, ⟨_, _, fun _ => 0, rfl, ⟨by simp, fun j hj => by omega⟩, fun j hj => by omega, rfl⟩⟩⟩
    case round =>
      obtain ⟨k, hk, rfl, H⟩ := hrel
      have hk0 : (0 : Int) ≤ k := by omega
      have hk1 : (k : Int) ≤ 78 := by omega
      by_cases hlt : k < s.size
      · have hki : (k : Int) < s.size := by omega
        obtain ⟨d1, d2⟩ := HF.out k hlt
        obtain ⟨d, hd⟩ : ∃ d, f k = d := ⟨_, rfl⟩
        rw [hd] at d1 d2
        have hb1 : ¬ ((s[k].toNat : Nat) : Int) < 48 := by omega
        have hb2 : ¬ (57 : Int) < ((s[k].toNat : Nat) : Int) := by omega
        have hb3 : ((s[k].toNat : Nat) : Int) - 48 = (d : Int) := by omega
        have hw8 : IntKind.u8.wrap (d : Int) = (d : Int) := by rw [IntKind.wrap_u8]; omega
        have hw64 : IntKind.u64.wrap (d : Int) = (d : Int) := by rw [IntKind.wrap_u64]; omega
        have hnx : dnum f (k + 1) = dnum f k * 10 + d := by rw [dnum, hd]
        have HNX := Lib.hid hnx; clear hnx hd d1
        have HD9 := Lib.hid d2; clear d2
        have hix : ∀ w, (Instr.index 9 (.string s) (.int .i64 k)).run Try.prog w = .ok (.int .u8 (s[k].toNat : Nat)) w := fun w => by go_simp
        have hsb : ∀ w, (binOp BinOp.sub 5 (.int .u8 (s[k].toNat : Nat)) (.int .u8 48)).run Try.prog w = .ok (.int .u8 (d : Nat)) w := fun w => by go_simp
        have hcv : ∀ w, (convert 5 22 (.int .u8 (d : Nat))).run Try.prog w = .ok (.int .u64 (d : Nat)) w := fun w => by go_simp
        have hmx : max (2 * k + 1) 1 + 1 = 2 * (k + 1) := by omega
        have HIX := Lib.hid hix; clear hix
        have HSB := Lib.hid hsb; clear hsb
        have HCV := Lib.hid hcv; clear hcv
        have HMX := Lib.hid hmx; clear hmx
        go_wp2_with fail
        refine region_tie3 (CQ w (2 * k) (dnum f k) u4) (fun i sl wx => match i with | 0 => sl 44 = u4 | 1 => DS 1 10 (sl 45) wx | 2 => DS (2 * k + 1) (dnum f k * 10) (sl 46) wx | 3 => sl 47 = .string s | 4 => sl 48 = .int .i64 k | 5 => sl 49 = .int .u8 (s[k].toNat : Nat) | 6 => sl 50 = .int .u8 (d : Nat) | 7 => sl 51 = .int .u64 (d : Nat) | 8 => DS 1 d (sl 52) wx | 9 => DS (2 * (k + 1)) (dnum f k * 10 + d) (sl 53) wx | 10 => DS (2 * (k + 1)) (dnum f k * 10 + d) (sl 4) wx | _ => True) RN (fun i => match i with | 0 => [44] | 1 => [45] | 2 => [46] | 3 => [47] | 4 => [48] | 5 => [49] | 6 => [50] | 7 => [51] | 8 => [52] | 9 => [53] | 10 => [4] | _ => []) (fun i => i) (by kernel_rfl) (by kernel_rfl) H.out.drew ?_ ?_ ?_ ?_
        · intro i sl sl' wx he hp
          match i, he, hp with
          | 0, he, hp => exact (he 44 (by simp)).symm.trans hp
          | 1, he, hp => have h := he 45 (by simp); rw [h] at hp; exact hp
          | 2, he, hp => have h := he 46 (by simp); rw [h] at hp; exact hp
          | 3, he, hp => exact (he 47 (by simp)).symm.trans hp
          | 4, he, hp => exact (he 48 (by simp)).symm.trans hp
          | 5, he, hp => exact (he 49 (by simp)).symm.trans hp
          | 6, he, hp => exact (he 50 (by simp)).symm.trans hp
          | 7, he, hp => exact (he 51 (by simp)).symm.trans hp
          | 8, he, hp => have h := he 52 (by simp); rw [h] at hp; exact hp
          | 9, he, hp => have h := he 53 (by simp); rw [h] at hp; exact hp
          | 10, he, hp => have h := he 4 (by simp); rw [h] at hp; exact hp
          | _ + 11, _, _ => trivial
        · intro i sl wa wb hR hp
          match i, hp with
          | 0, hp => exact hp
          | 1, hp => exact hp.keep hR
          | 2, hp => exact hp.keep hR
          | 3, hp => exact hp
          | 4, hp => exact hp
          | 5, hp => exact hp
          | 6, hp => exact hp
          | 7, hp => exact hp
          | 8, hp => exact hp.keep hR
          | 9, hp => exact hp.keep hR
          | 10, hp => exact hp.keep hR
          | _ + 11, _ => trivial
        · refine ⟨?_, ?_, ?_, ?_, ?_, ?_, ?_, ?_, ?_, ?_, ?_, trivial⟩
          · intro a wx hC hsz hK
            exact vv_val u4 (by kernel_rfl) (by rw [← show a.tmps.getD 4 undef = u4 from hK.1 4 (by kernel_rfl)]; kernel_rfl) hC (slots_put _ _ _ (by rw [hsz]; exact of_decide_eq_true (by kernel_rfl))) (RN.refl _)
          · intro a wx hC hsz hK
            have hb : Below wx.heap.size wx (wx.alloc (.cells #[.int .u64 (10 : Nat)] 22)) := (Below.refl _ _).alloc (Nat.le_refl _) _
            refine vv_v (Instr.buildSlice 50 1 #[(0, .int .u64 10)]) (.slice (some ⟨wx.heap.size, 0, none⟩) 1 1) (by kernel_rfl) (by kernel_rfl) (w' := wx.alloc (.cells #[.int .u64 (10 : Nat)] 22)) (by kernel_rfl) (hC.below hb) ?_ (RN.of hb)
            show DS 1 10 _ _
            rw [slots_put _ _ _ (by rw [hsz]; exact of_decide_eq_true (by kernel_rfl))]
            exact ds_one wx 10 (by omega)
          · intro a wx hC hsz hK
            have h0 : a.tmps.getD 44 undef = u4 := hK.2 ⟨0, .data⟩ (by simp) rfl _ rfl
            have h1 := hK.2 ⟨1, .data⟩ (by simp) rfl _ rfl
            refine vv_call 42 #[a.tmps.getD 44 undef, a.tmps.getD 45 undef] (by kernel_rfl) (by kernel_rfl) ?_
            rw [h0]
            refine Calls.mono (product_dsl (by omega) (by omega) hC.ds h1) ?_
            rintro e w' ⟨v, rfl, hb, hv⟩
            exact ⟨v, rfl, hC.below hb, (by rw [slots_put _ _ _ (by rw [hsz]; exact of_decide_eq_true (by kernel_rfl))]; exact hv), RN.of hb⟩
          · intro a wx hC hsz hK
            exact vv_val (.string s) (by kernel_rfl) (by rw [← show a.tmps.getD 0 undef = .string s from hK.1 0 (by kernel_rfl)]; kernel_rfl) hC (slots_put _ _ _ (by rw [hsz]; exact of_decide_eq_true (by kernel_rfl))) (RN.refl _)
          · intro a wx hC hsz hK
            exact vv_val (.int .i64 k) (by kernel_rfl) (by rw [← show a.tmps.getD 5 undef = .int .i64 k from hK.1 5 (by kernel_rfl)]; kernel_rfl) hC (slots_put _ _ _ (by rw [hsz]; exact of_decide_eq_true (by kernel_rfl))) (RN.refl _)
          · intro a wx hC hsz hK
            have h0 : a.tmps.getD 47 undef = .string s := hK.2 ⟨3, .data⟩ (by simp) rfl _ rfl
            have h1 : a.tmps.getD 48 undef = .int .i64 k := hK.2 ⟨4, .data⟩ (by simp) rfl _ rfl
            refine vv_v (Instr.index 9 (a.tmps.getD 47 undef) (a.tmps.getD 48 undef)) (.int .u8 (s[k].toNat : Nat)) (by kernel_rfl) rfl ?_ hC (slots_put _ _ _ (by rw [hsz]; exact of_decide_eq_true (by kernel_rfl))) (RN.refl _)
            rw [h0, h1]; exact HIX.out wx
          · intro a wx hC hsz hK
            have h0 : a.tmps.getD 49 undef = .int .u8 (s[k].toNat : Nat) := hK.2 ⟨5, .data⟩ (by simp) rfl _ rfl
            refine vv_v (do eqGuard .sub 5 (.tmp 49) (.const (.int .u8 48)) (a.tmps.getD 49 undef) (.int .u8 48); binOp .sub 5 (a.tmps.getD 49 undef) (.int .u8 48)) (.int .u8 (d : Nat)) (by kernel_rfl) rfl ?_ hC (slots_put _ _ _ (by rw [hsz]; exact of_decide_eq_true (by kernel_rfl))) (RN.refl _)
            rw [h0]
            have hg : (eqGuard .sub 5 (.tmp 49) (.const (.int .u8 48)) (.int .u8 (s[k].toNat : Nat)) (.int .u8 48)).run Try.prog wx = .ok () wx := by kernel_rfl
            simp only [Sem.run_bind, hg, HSB.out wx, Result.andThen_ok]
          · intro a wx hC hsz hK
            have h0 : a.tmps.getD 50 undef = .int .u8 (d : Nat) := hK.2 ⟨6, .data⟩ (by simp) rfl _ rfl
            refine vv_v (convert 5 22 (a.tmps.getD 50 undef)) (.int .u64 (d : Nat)) (by kernel_rfl) rfl ?_ hC (slots_put _ _ _ (by rw [hsz]; exact of_decide_eq_true (by kernel_rfl))) (RN.refl _)
            rw [h0]; exact HCV.out wx
          · intro a wx hC hsz hK
            have h0 : a.tmps.getD 51 undef = .int .u64 (d : Nat) := hK.2 ⟨7, .data⟩ (by simp) rfl _ rfl
            have hb : Below wx.heap.size wx (wx.alloc (.cells #[.int .u64 (d : Nat)] 22)) := (Below.refl _ _).alloc (Nat.le_refl _) _
            refine vv_v (Instr.buildSlice 50 1 #[(0, a.tmps.getD 51 undef)]) (.slice (some ⟨wx.heap.size, 0, none⟩) 1 1) (by kernel_rfl) (by kernel_rfl) (w' := wx.alloc (.cells #[.int .u64 (d : Nat)] 22)) (by rw [h0]; kernel_rfl) (hC.below hb) ?_ (RN.of hb)
            show DS 1 d _ _
            rw [slots_put _ _ _ (by rw [hsz]; exact of_decide_eq_true (by kernel_rfl))]
            exact ds_one wx d (by have := HD9.out; omega)
          · intro a wx hC hsz hK
            have h0 := hK.2 ⟨2, .data⟩ (by simp) rfl _ rfl
            have h1 := hK.2 ⟨8, .data⟩ (by simp) rfl _ rfl
            refine vv_call 33 #[a.tmps.getD 46 undef, a.tmps.getD 52 undef] (by kernel_rfl) (by kernel_rfl) ?_
            have hs := sum_dsl (w := wx) (by omega) (by omega) h0 h1
            rw [HMX.out] at hs
            refine Calls.mono hs ?_
            rintro e w' ⟨v, rfl, hb, hv⟩
            exact ⟨v, rfl, hC.below hb, (by rw [slots_put _ _ _ (by rw [hsz]; exact of_decide_eq_true (by kernel_rfl))]; exact hv), RN.of hb⟩
          · intro a wx hC hsz hK
            have h0 := hK.2 ⟨9, .data⟩ (by simp) rfl _ rfl
            exact vv_val (a.tmps.getD 53 undef) (by kernel_rfl) (by kernel_rfl) hC (by rw [slots_put _ _ _ (by rw [hsz]; exact of_decide_eq_true (by kernel_rfl))]; exact h0) (RN.refl _)
        · intro fv wx hC hf
          have h4 : DS (2 * (k + 1)) (dnum f k * 10 + d) (slots (putAll fv _ _) 4) wx := hf 10 _ rfl
          clear hf
          have HC := Lib.hid hC; clear hC
          generalize e4 : slots (putAll fv _ _) 4 = v4 at h4
          have H5 := Lib.hid h4; clear h4
          simp only [putAll, Act.put, slots, List.setIfInBounds_toArray, List.set_cons_succ, List.set_cons_zero] at e4 ⊢
          simp only [Array.getD_eq_getD_getElem?, List.getElem?_toArray, List.getElem?_cons_succ, List.getElem?_cons_zero, Option.getD_some] at e4
          rw [e4]
          clear e4
          go_wp2_with fail
          go_roundw
          case rel => exact ⟨k + 1, by omega, by go_num, Lib.hid ⟨HC.out.old, HC.out.r0, by rw [HNX.out]; exact H5.out⟩⟩
          case measure => first | (simp [intOf]; done) | (simp [intOf]; omega)
      · obtain rfl : k = s.size := by omega
        obtain ⟨hold, hr0, b, cap, dd, hsv, hD, hdl, hdv⟩ := H.out
        subst hsv
        have HR := Lib.hid (And.intro hold (And.intro hr0 (And.intro hD (And.intro hdl hdv)))); clear hold hr0 hD hdl hdv H
        obtain ⟨n2, hn2⟩ : ∃ n2, 2 * s.size = n2 := ⟨_, rfl⟩
        rw [hn2] at HR ⊢
        have hn3 : (n2 : Int) ≤ 156 := by omega
        clear hn2
        go_wp2_with fail
        go_loop [6] (fun iv => ∃ j : Nat, 16 ≤ j ∧ iv = .int .i64 j ∧ Hid (∀ t, 16 ≤ t → t < j → t < n2 → dd t = 0)) (fun iv => n2 - (intOf iv).toNat)
        case atStart => exact ⟨16, by omega, rfl, Lib.hid (fun t h1 h2 => by omega)⟩
        case round =>
          obtain ⟨j, hj, rfl, HZ⟩ := hrel
          have hj0 : (0 : Int) ≤ j := by omega
          by_cases hjn : j < n2
          · have hjn' : (j : Int) < n2 := by omega
            have cj := HR.out.2.2.1.2 j hjn
            by_cases hdz : dd j = 0
            · have e1 : (((dd j : Nat) : Int) != 0) = false := by simp [hdz]
              have HDZ := Lib.hid hdz; clear hdz
              go_wp2_with fail
              go_round
              case rel => exact ⟨j + 1, by omega, by go_num, Lib.hid (fun t h1 h2 h3 => by
                by_cases e : t = j
                · rw [e]; exact HDZ.out
                · exact HZ.out t h1 (by omega) h3)⟩
              case measure => first | (simp [intOf]; done) | (simp [intOf]; omega)
            · have e1 : (((dd j : Nat) : Int) != 0) = true := by simp [hdz]
              have hbig : ¬ dnum f s.size < 115792089237316195423570985008687907853269984665640564039457584007913129639936 := fun hlt => hdz (vd_small (n := 16) (m := n2) (by rw [HR.out.2.2.2.2, w16]; exact hlt) j hj hjn)
              have HBIG := Lib.hid hbig; clear hbig hdz
              go_wp2_with (refine wpList_store_row rfl 24 _ _ rfl w.heap.size #[.int .u64 0, .int .u64 0, .int .u64 0, .int .u64 0] rfl rfl 24 #[.int .u64 0, .int .u64 0, .int .u64 0, .int .u64 0] HR.out.2.1 infoWord rfl (by simp [Value.oneCell']) ?_)
              (try simp only [Exit.inBlock, Exit.then])
              exact bodyPost_ret (v := .tuple #[.agg #[.int .u64 0, .int .u64 0, .int .u64 0, .int .u64 0], .int .i64 2]) (results_ct (p := 2) (q := 3) rfl _ _ w.heap.size _ _ rfl rfl (setRow_heap _ _ _ _ _ _ HR.out.2.1) infoWord) rfl ⟨by rw [if_neg HBIG.out], below_setRow HR.out.1 (Nat.le_refl _) _⟩
          · have hjn' : ¬ (j : Int) < n2 := by omega
            have hfit : dnum f s.size < 115792089237316195423570985008687907853269984665640564039457584007913129639936 := by
              have h := vd_full (d := dd) (min 16 n2) n2 (fun t h1 h2 => HZ.out t (by omega) (by omega) h2) (by omega)
              rw [← HR.out.2.2.2.2, h]
              refine Nat.lt_of_lt_of_le (vd_lt (fun t ht => HR.out.2.2.2.1 t (by omega))) ?_
              have := Nat.pow_le_pow_right (show 0 < 65536 by omega) (show min 16 n2 ≤ 16 by omega)
              rwa [w16] at this
            have HFIT := Lib.hid hfit; clear hfit
            have HWD : Hid (Calls Try.prog 35 #[.slice (some ⟨b, 0, none⟩) n2 cap] wr fun e w' => e = .returned (.agg (pw (dnum f s.size))) ∧ Below wr.heap.size wr w') := Lib.hid (by
              have h := word_any b cap n2 dd (by omega) HR.out.2.2.2.1 wr HR.out.2.2.1
              rw [HR.out.2.2.2.2] at h
              exact h)
            go_wp2_with fail
            refine HWD.out.mono ?_
            rintro e w1 ⟨rfl, hb⟩
            have h1 := (hb.block _ (Array.getElem?_eq_some_iff.1 HR.out.2.1).1).trans HR.out.2.1
            have H1 := Lib.hid (And.intro h1 (HR.out.1.trans (hb.mono HR.out.1.size))); clear h1 hb
            go_wp2_with (refine wpList_store_row rfl 24 _ _ rfl w.heap.size (pw (dnum f s.size)) rfl rfl 24 #[.int .u64 0, .int .u64 0, .int .u64 0, .int .u64 0] H1.out.1 infoWord rfl (pw_one _) ?_)
            (try simp only [Exit.inBlock, Exit.then])
            exact bodyPost_ret (v := .tuple #[.agg (pw (dnum f s.size)), .int .i64 0]) (results_ct (p := 2) (q := 3) rfl _ _ w.heap.size _ _ rfl rfl (setRow_heap _ _ _ _ _ _ H1.out.1) infoWord) rfl ⟨by rw [if_pos HFIT.out], below_setRow H1.out.2 (Nat.le_refl _) _⟩
end Go.Proofs.Ytfgefifplmhopaa
namespace Go.Proofs.Ytfgefifplmhopaa
open Go.RowKit
def baseS : ByteArray := ⟨#[50, 49, 56, 56, 56, 50, 52, 50, 56, 55, 49, 56, 51, 57, 50, 55, 53, 50, 50, 50, 50, 52, 54, 52, 48, 53, 55, 52, 53, 50, 53, 55, 50, 55, 53, 48, 56, 56, 54, 57, 54, 51, 49, 49, 49, 53, 55, 50, 57, 55, 56, 50, 51, 54, 54, 50, 54, 56, 57, 48, 51, 55, 56, 57, 52, 54, 52, 53, 50, 50, 54, 50, 48, 56, 53, 56, 51]⟩
def baseD (j : Nat) : Nat := [2, 1, 8, 8, 8, 2, 4, 2, 8, 7, 1, 8, 3, 9, 2, 7, 5, 2, 2, 2, 2, 4, 6, 4, 0, 5, 7, 4, 5, 2, 5, 7, 2, 7, 5, 0, 8, 8, 6, 9, 6, 3, 1, 1, 1, 5, 7, 2, 9, 7, 8, 2, 3, 6, 6, 2, 6, 8, 9, 0, 3, 7, 8, 9, 4, 6, 4, 5, 2, 2, 6, 2, 0, 8, 5, 8, 3].getD j 0
theorem base_len : baseS.size = 77 := by kernel_rfl
theorem base_dig : ∀ j (hj : j < baseS.size), baseS[j].toNat = baseD j + 48 ∧ baseD j ≤ 9 := by
  have h : ∀ j : Fin 77, (#[50, 49, 56, 56, 56, 50, 52, 50, 56, 55, 49, 56, 51, 57, 50, 55, 53, 50, 50, 50, 50, 52, 54, 52, 48, 53, 55, 52, 53, 50, 53, 55, 50, 55, 53, 48, 56, 56, 54, 57, 54, 51, 49, 49, 49, 53, 55, 50, 57, 55, 56, 50, 51, 54, 54, 50, 54, 56, 57, 48, 51, 55, 56, 57, 52, 54, 52, 53, 50, 50, 54, 50, 48, 56, 53, 56, 51] : Array UInt8)[j].toNat = baseD j + 48 ∧ baseD j ≤ 9 := by decide +kernel
  intro j hj
  exact h ⟨j, by rw [base_len] at hj; exact hj⟩
theorem base_num : dnum baseD 77 = 21888242871839275222246405745257275088696311157297823662689037894645226208583 := by decide +kernel
theorem rbase_parse (w : World) : Calls Try.prog 52 #[.string baseS] w fun e w' => e = .returned (.tuple #[.agg (pw 21888242871839275222246405745257275088696311157297823662689037894645226208583), .int .i64 0]) ∧ Below w.heap.size w w' := by
  have h := rparse_walk baseS baseD w (by rw [base_len]; omega) (by rw [base_len]; omega) (fun _ => by decide +kernel) base_dig
  unfold ParsePost at h
  rw [base_len, base_num, if_pos (by omega)] at h
  exact h
set_option maxRecDepth 100000 in
theorem rbase_any (w : World) : Calls Try.prog 24 #[] w fun e w' => e = .returned (.agg (pw 21888242871839275222246405745257275088696311157297823662689037894645226208583)) ∧ Below w.heap.size w w' := by
  obtain ⟨V, hV⟩ : ∃ V, 21888242871839275222246405745257275088696311157297823662689037894645226208583 = V := ⟨_, rfl⟩
  have HP := Lib.hid (fun wx => rbase_parse wx)
  rw [hV] at HP ⊢
  clear hV
  go_enter Try.func24, Try.ntmps24
  go_wp2_with fail
  refine (HP.out _).mono ?_
  rintro e w1 ⟨rfl, hb1⟩
  have G1 := Lib.hid (heap_alloc_new w1 (.cells (#[.int .u64 0, .int .u64 0, .int .u64 0, .int .u64 0]) 24))
  have H1 := Lib.hid (show Below w.heap.size w ((w1.alloc (.cells (#[.int .u64 0, .int .u64 0, .int .u64 0, .int .u64 0]) 24)).setRow w1.heap.size (pw V)) ∧ ((w1.alloc (.cells (#[.int .u64 0, .int .u64 0, .int .u64 0, .int .u64 0]) 24)).setRow w1.heap.size (pw V)).heap[w.heap.size]? = some (.cells (#[.int .u64 0, .int .u64 0, .int .u64 0, .int .u64 0]) 24 (0, 0)) ∧ ((w1.alloc (.cells (#[.int .u64 0, .int .u64 0, .int .u64 0, .int .u64 0]) 24)).setRow w1.heap.size (pw V)).heap[w1.heap.size]? = some (.cells (pw V) 24 (0, 0)) from by
    have hs := hb1.size
    rw [World.size_alloc] at hs
    have hb2 : Below w1.heap.size w1 ((w1.alloc (.cells (#[.int .u64 0, .int .u64 0, .int .u64 0, .int .u64 0]) 24)).setRow w1.heap.size (pw V)) := below_setRow ((Below.refl _ _).alloc (Nat.le_refl _) _) (Nat.le_refl _) _
    refine ⟨(((Below.refl _ _).alloc (Nat.le_refl _) _).trans (hb1.mono (by simp))).trans (hb2.mono (by omega)), ?_, setRow_heap _ _ _ _ _ _ (heap_alloc_new _ _)⟩
    exact (hb2.block _ (by omega)).trans ((hb1.block _ (by simp)).trans (heap_alloc_new _ _)))
  clear hb1 HP
  go_upto_region 2 with (refine wpList_store_row rfl 24 _ _ rfl w1.heap.size (pw V) rfl rfl 24 (#[.int .u64 0, .int .u64 0, .int .u64 0, .int .u64 0]) (by exact G1.out) (by rw [pw_size]; exact infoW4) (by rw [pw_size]; rfl) (pw_one _) ?_)
  obtain ⟨w2, hw2⟩ : ∃ w2, (w1.alloc (.cells (#[.int .u64 0, .int .u64 0, .int .u64 0, .int .u64 0]) 24)).setRow w1.heap.size (pw V) = w2 := ⟨_, rfl⟩
  obtain ⟨g1, hg1⟩ : ∃ g1, w1.heap.size = g1 := ⟨_, rfl⟩
  rw [hw2, hg1] at H1
  rw [hw2, hg1]
  clear hw2 hg1 G1
  go_wp2_with (first | (refine wpList_ld rfl 24 _ rfl (.pointer (some ⟨g1, 0, none⟩)) (.agg (pw V)) rfl (ld_pw (by exact H1.out.2.2)) ?_) | (refine wpList_store_row rfl 24 _ _ rfl (w.heap.size) (pw V) rfl rfl 24 (#[.int .u64 0, .int .u64 0, .int .u64 0, .int .u64 0]) (by exact H1.out.2.1) (by rw [pw_size]; exact infoW4) (by first | rfl | (rw [pw_size]; rfl) | (rw [pw_size, pw_size])) (pw_one _) ?_))
  (try simp only [Act.put])
  refine bodyPost_ret (v := .agg (pw V)) (results_cell_row (p := 0) rfl _ _ (w.heap.size) 24 (pw V) (0, 0) _ rfl (setRow_heap _ _ _ _ _ _ (by exact H1.out.2.1)) Try.underlying24 rfl (by rw [pw_size]; exact infoW4)) rfl ⟨rfl, below_setRow H1.out.1 (Nat.le_refl _) _⟩
end Go.Proofs.Ytfgefifplmhopaa
namespace Go.Proofs.Ytfgefifplmhopaa
open Go.RowKit
theorem sq_pow (m k e : Nat) (hk : k = e + e) (he : 2 ^ e = 115792089237316195423570985008687907853269984665640564039457584007913129639936) : 2 ^ k % m = 115792089237316195423570985008687907853269984665640564039457584007913129639936 * 115792089237316195423570985008687907853269984665640564039457584007913129639936 % m := by rw [hk, Nat.pow_add, he]
theorem row17 (m : Nat) : (#[.int .u64 ((pN m 0 : Nat) : Int), .int .u64 ((pN m 1 : Nat) : Int), .int .u64 ((pN m 2 : Nat) : Int), .int .u64 ((pN m 3 : Nat) : Int), .int .u64 ((qN m 0 : Nat) : Int), .int .u64 ((qN m 1 : Nat) : Int), .int .u64 ((qN m 2 : Nat) : Int), .int .u64 ((qN m 3 : Nat) : Int), .int .u64 ((qN m 4 : Nat) : Int), .int .u64 ((qN m 5 : Nat) : Int), .int .u64 ((qN m 6 : Nat) : Int), .int .u64 ((qN m 7 : Nat) : Int), .int .u64 1, .int .u64 0, .int .u64 0, .int .u64 0, .int .u64 0] : Array Value) = ar .u64 17 fun j => ((rfw m 1 0 j : Nat) : Int) := by kernel_rfl
theorem q8_lit (m : Nat) : (ar .u64 8 fun j => ((qN m j : Nat) : Int)) = #[.int .u64 ((qN m 0 : Nat) : Int), .int .u64 ((qN m 1 : Nat) : Int), .int .u64 ((qN m 2 : Nat) : Int), .int .u64 ((qN m 3 : Nat) : Int), .int .u64 ((qN m 4 : Nat) : Int), .int .u64 ((qN m 5 : Nat) : Int), .int .u64 ((qN m 6 : Nat) : Int), .int .u64 ((qN m 7 : Nat) : Int)] := by kernel_rfl
/-- The worlds of New. -/
structure CNw (w : World) (G m lo sq : Nat) (wx : World) : Prop where
  old : Below w.heap.size w wx
  hG : w.heap.size ≤ G
  fld : RFat wx G m lo sq
theorem CNw.below {w wx w' : World} {G m lo sq : Nat} (c : CNw w G m lo sq wx) (hb : Below wx.heap.size wx w') : CNw w G m lo sq w' := ⟨c.old.trans (hb.mono c.old.size), c.hG, c.fld.below hb⟩
theorem CNw.drew {w wx : World} {G m lo sq : Nat} (c : CNw w G m lo sq wx) : CNw w G m lo sq wx.drew := c.below (Below.drew (Below.refl _ _))
theorem CNw.calls {w : World} {G m lo sq : Nat} {f : FuncId} {args : Array Value} {v : Value} (h : ∀ wx, RFat wx G m lo sq → Calls Try.prog f args wx fun e w' => e = .returned v ∧ Below wx.heap.size wx w') : ∀ wx, CNw w G m lo sq wx → Calls Try.prog f args wx fun e w' => e = .returned v ∧ CNw w G m lo sq w' :=
  fun wx c => (h wx c.fld).mono fun _ _ hh => ⟨hh.1, c.below hh.2⟩
/-- Low, as it lies there. -/
def lowOf (G : Nat) (w : World) : Nat := match w.cell? ⟨G, 12, none⟩ with | some (.int _ x) => x.toNat | _ => 0
theorem lowOf_is {w : World} {G m lo sq : Nat} (h : RFat w G m lo sq) : lowOf G w = lo := by
  unfold lowOf
  rw [h.cell 12 (by omega), rfw_lo]
  simp
set_option maxRecDepth 100000 in
set_option maxHeartbeats 4000000 in
theorem rnew_any (m : Nat) (hm : m < 115792089237316195423570985008687907853269984665640564039457584007913129639936) (ho : m % 2 = 1) (h1 : 1 < m) (w : World) : Calls Try.prog 18 #[.agg (pw m)] w fun e w' => ∃ v, e = .returned v ∧ (∃ G, v = (.pointer (some ⟨G, 0, none⟩)) ∧ w.heap.size ≤ G ∧ ∃ lo, lo < 4294967296 ∧ (lo * qN m 0 + 1) % 4294967296 = 0 ∧ RFat w' G m lo (115792089237316195423570985008687907853269984665640564039457584007913129639936 * 115792089237316195423570985008687907853269984665640564039457584007913129639936 % m)) ∧ Below w.heap.size w w' := by
  have H0 := Lib.hid (CBm.start w m)
  have HP := Lib.hid (fun wx => rparts_any m wx)
  rw [q8_lit] at HP
  have HO := Lib.hid (And.intro hm (And.intro ho h1))
  have HQ0 := Lib.hid (show qN m 0 % 2 = 1 from by unfold qN; simp; omega)
  clear hm ho h1
  go_enter Try.func18, Try.ntmps18
  go_wp2_with fail
  refine region_quiet_tail 4 (CBm w m) (by kernel_rfl) (by kernel_rfl) (H0.out.drew) ?_
  simp only [List.take_succ_cons, List.take_zero, List.drop_succ_cons, List.drop_zero]
  with_reducible refine q_load 24 (.tmp 1) (.pointer (some ⟨w.heap.size, 0, none⟩)) (.agg #[.int .u64 ((pN m 0 : Nat) : Int), .int .u64 ((pN m 1 : Nat) : Int), .int .u64 ((pN m 2 : Nat) : Int), .int .u64 ((pN m 3 : Nat) : Int)]) rfl (by kernel_rfl) (by kernel_rfl) (fun _ c => (by rw [← pw4]; exact ld_pw c.r0)) ?_
  with_reducible refine q_load 24 (.tmp 1) (.pointer (some ⟨w.heap.size, 0, none⟩)) (.agg (pw m)) rfl (by kernel_rfl) (by kernel_rfl) (fun _ c => ld_pw c.r0) ?_
  with_reducible refine q_call 43 #[.agg (pw m)] (.agg #[.int .u64 ((qN m 0 : Nat) : Int), .int .u64 ((qN m 1 : Nat) : Int), .int .u64 ((qN m 2 : Nat) : Int), .int .u64 ((qN m 3 : Nat) : Int), .int .u64 ((qN m 4 : Nat) : Int), .int .u64 ((qN m 5 : Nat) : Int), .int .u64 ((qN m 6 : Nat) : Int), .int .u64 ((qN m 7 : Nat) : Int)]) (by kernel_rfl) (fun _ => by kernel_rfl) (CBm.calls HP.out) ?_
  with_reducible refine q_val (.agg #[.int .u64 ((pN m 0 : Nat) : Int), .int .u64 ((pN m 1 : Nat) : Int), .int .u64 ((pN m 2 : Nat) : Int), .int .u64 ((pN m 3 : Nat) : Int), .int .u64 ((qN m 0 : Nat) : Int), .int .u64 ((qN m 1 : Nat) : Int), .int .u64 ((qN m 2 : Nat) : Int), .int .u64 ((qN m 3 : Nat) : Int), .int .u64 ((qN m 4 : Nat) : Int), .int .u64 ((qN m 5 : Nat) : Int), .int .u64 ((qN m 6 : Nat) : Int), .int .u64 ((qN m 7 : Nat) : Int), .int .u64 1, .int .u64 0, .int .u64 0, .int .u64 0, .int .u64 0]) (by kernel_rfl) (fun _ _ => by kernel_rfl) ?_
  with_reducible refine wpQuiet_nil ?_
  intro wx hC
  have HC := Lib.hid hC
  clear hC H0 HP
  simp only [Act.put, List.setIfInBounds_toArray, List.set_cons_succ, List.set_cons_zero]
  go_wp2_with fail
  obtain ⟨w1, hw1⟩ : ∃ w1, wx.alloc (.cells (#[.int .u64 ((pN m 0 : Nat) : Int), .int .u64 ((pN m 1 : Nat) : Int), .int .u64 ((pN m 2 : Nat) : Int), .int .u64 ((pN m 3 : Nat) : Int), .int .u64 ((qN m 0 : Nat) : Int), .int .u64 ((qN m 1 : Nat) : Int), .int .u64 ((qN m 2 : Nat) : Int), .int .u64 ((qN m 3 : Nat) : Int), .int .u64 ((qN m 4 : Nat) : Int), .int .u64 ((qN m 5 : Nat) : Int), .int .u64 ((qN m 6 : Nat) : Int), .int .u64 ((qN m 7 : Nat) : Int), .int .u64 1, .int .u64 0, .int .u64 0, .int .u64 0, .int .u64 0]) 61) = w1 := ⟨_, rfl⟩
  obtain ⟨G, hG⟩ : ∃ G, wx.heap.size = G := ⟨_, rfl⟩
  have H1 := Lib.hid (show CNw w G m 1 0 w1 from by
    refine ⟨by rw [← hw1]; exact HC.out.old.alloc HC.out.old.size _, by rw [← hG]; exact HC.out.old.size, ?_⟩
    unfold RFat
    rw [← hw1, ← hG, row17]
    exact heap_alloc_new _ _)
  rw [hw1, hG]
  clear hw1 hG HC
  go_loopw [] (fun wr => ∃ lo : Nat, Hid (LowI (qN m 0) lo ∧ CNw w G m lo 0 wr)) (fun wr => 4294967296 - lowOf G wr)
  case atStart => exact ⟨1, Lib.hid ⟨LowI.start HQ0.out, H1.out⟩⟩
  case round =>
    obtain ⟨lo, H⟩ := hrel
    clear H1
    have hll := H.out.1.lt
    have hql := qN_lt m 0
    have c12 := H.out.2.fld.cell 12 (by omega)
    have c4 := H.out.2.fld.cell 4 (by omega)
    have f12 := frozen_of_row wr G 12 _ _ H.out.2.fld
    rw [rfw_lo] at c12
    rw [show rfw m lo 0 4 = qN m 0 from rfw_q m lo 0 0 (by omega)] at c4
    obtain ⟨q, hq⟩ : ∃ q, qN m 0 = q := ⟨_, rfl⟩
    rw [hq] at c4 hql
    have hpl : lo * q ≤ 4294967295 * 4294967295 := Nat.mul_le_mul (by omega) (by omega)
    obtain ⟨pr, hpr⟩ : ∃ pr, lo * q = pr := ⟨_, rfl⟩
    obtain ⟨c, hc⟩ : ∃ c, pr % 4294967296 = c := ⟨_, rfl⟩
    rw [hpr] at hpl
    have hW : IntKind.u64.wrap ((lo : Int) * (q : Int)) = (pr : Int) := by rw [IntKind.wrap_u64, ← hpr, Int.natCast_mul]; have : (lo : Int) * q = (pr : Int) := by rw [← hpr, Int.natCast_mul]
                                                                           omega
    have hA : bits .and .u64 (pr : Int) 4294967295 = (c : Int) := by rw [and_low32 pr (by omega), hc]
    have HPR := Lib.hid (And.intro hq (And.intro hpr hc))
    by_cases he : c = 4294967295
    · subst he
      have HF := Lib.hid (show lo < 4294967296 ∧ (lo * qN m 0 + 1) % 4294967296 = 0 from ⟨hll, LowI.done (by rw [hq, hpr, hc])⟩)
      clear hc hll hql hpl hq hpr HPR
      go_wp2_with fail
      go_region
      go_wp2_with (refine wpList_store_mid rfl 24 _ _ rfl G 13 (pw 1) rfl rfl (by exact H.out.2.drew.fld.there 1) (by rw [pw_size]; exact infoW4) (pw_one _) ?_)
      obtain ⟨w3, hw3⟩ : ∃ w3, wr.drew.setCells G 13 (pw 1).toList = w3 := ⟨_, rfl⟩
      have H3 := Lib.hid (show CNw w G m lo (2 ^ 0 % m) w3 from by
        rw [show 2 ^ 0 % m = 1 from by rw [Nat.pow_zero]; exact Nat.mod_eq_of_lt HO.out.2.2, ← hw3]
        exact ⟨tab_below _ _ H.out.2.drew.old H.out.2.hG, H.out.2.hG, H.out.2.drew.fld.sq 1⟩)
      rw [hw3]
      clear hw3 H hW hA c12 c4 f12
      go_loopw [5] (fun iv wr => ∃ k : Nat, k ≤ 512 ∧ iv = .int .i64 k ∧ Hid (CNw w G m lo (2 ^ k % m) wr)) (fun iv _ => 512 - (intOf iv).toNat)
      case atStart => exact ⟨0, by omega, rfl, H3⟩
      case round =>
        obtain ⟨k, hk, rfl, H⟩ := hrel
        clear H3
        have hk0 : (0 : Int) ≤ k := by omega
        by_cases hlt : k < 512
        · have hlt' : (k : Int) < 512 := by omega
          have hm0 : 0 < m := by have := HO.out.2.2; omega
          obtain ⟨x, hx⟩ : ∃ x, 2 ^ k % m = x := ⟨_, rfl⟩
          have hxm : x < m := by rw [← hx]; exact Nat.mod_lt _ hm0
          have HX := Lib.hid (show (x + x) % m = 2 ^ (k + 1) % m from by rw [← hx, Nat.pow_succ, Nat.mul_two, ← Nat.add_mod])
          obtain ⟨y, hy⟩ : ∃ y, (x + x) % m = y := ⟨_, rfl⟩
          rw [hx] at H
          have HAD := Lib.hid (fun wx (hf : RFat wx G m lo x) => radd_any G m lo x x x hxm hxm HO.out.1 wx hf)
          rw [hy] at HX HAD
          have HK := Lib.hid hlt
          clear hx hxm hy hm0 hlt hk
          go_wp2_with fail
          refine region_quiet_tail 11 (CNw w G m lo x) (by kernel_rfl) (by kernel_rfl) (H.out.drew) ?_
          simp only [List.take_succ_cons, List.take_zero, List.drop_succ_cons, List.drop_zero]
          with_reducible refine q_val (.pointer (some ⟨G, 0, none⟩)) (by kernel_rfl) (fun _ _ => by kernel_rfl) ?_
          with_reducible refine q_val (.pointer (some ⟨G, 0, none⟩)) (by kernel_rfl) (fun _ _ => by kernel_rfl) ?_
          with_reducible refine q_val (.pointer (some ⟨G, 0, none⟩)) (by kernel_rfl) (fun _ _ => by kernel_rfl) ?_
          with_reducible refine q_val (.pointer (some ⟨G, 0, none⟩)) (by kernel_rfl) (fun _ _ => run_nil (.tmp 57) _ rfl (by kernel_rfl)) ?_
          with_reducible refine q_sem2 (Instr.fieldAt 61 (.pointer (some ⟨G, 0, none⟩)) 3) (.pointer (some ⟨G, 13, none⟩)) (by kernel_rfl) (by kernel_rfl) (fun w' _ => (rf_at G w').2.2.2) ?_
          with_reducible refine q_load 24 (.tmp 59) (.pointer (some ⟨G, 13, none⟩)) (.agg (pw x)) rfl (by kernel_rfl) (by kernel_rfl) (fun _ c => ld_rsq c.fld) ?_
          with_reducible refine q_val (.pointer (some ⟨G, 0, none⟩)) (by kernel_rfl) (fun _ _ => by kernel_rfl) ?_
          with_reducible refine q_val (.pointer (some ⟨G, 0, none⟩)) (by kernel_rfl) (fun _ _ => run_nil (.tmp 61) _ rfl (by kernel_rfl)) ?_
          with_reducible refine q_sem2 (Instr.fieldAt 61 (.pointer (some ⟨G, 0, none⟩)) 3) (.pointer (some ⟨G, 13, none⟩)) (by kernel_rfl) (by kernel_rfl) (fun w' _ => (rf_at G w').2.2.2) ?_
          with_reducible refine q_load 24 (.tmp 63) (.pointer (some ⟨G, 13, none⟩)) (.agg (pw x)) rfl (by kernel_rfl) (by kernel_rfl) (fun _ c => ld_rsq c.fld) ?_
          with_reducible refine q_call 44 #[.pointer (some ⟨G, 0, none⟩), .agg (pw x), .agg (pw x)] (.agg (pw y)) (by kernel_rfl) (fun _ => by kernel_rfl) (CNw.calls HAD.out) ?_
          with_reducible refine wpQuiet_nil ?_
          intro wx hC
          have HC := Lib.hid hC
          clear hC H
          simp only [Act.put, List.setIfInBounds_toArray, List.set_cons_succ, List.set_cons_zero]
          go_wp2_with (refine wpList_store_mid rfl 24 _ _ rfl G 13 (pw y) rfl rfl (by exact HC.out.fld.there y) (by rw [pw_size]; exact infoW4) (pw_one _) ?_)
          go_roundw
          case rel => exact ⟨k + 1, by have := HK.out; omega, by go_num, Lib.hid (by rw [← HX.out]; exact ⟨tab_below _ _ HC.out.old HC.out.hG, HC.out.hG, HC.out.fld.sq y⟩)⟩
          case measure => have := HK.out; simp [intOf]; omega
        · have hlt' : ¬ (k : Int) < 512 := by omega
          have HK := Lib.hid (show k = 512 by omega)
          clear hlt hk
          go_wp2_with fail
          go_ret
          refine ⟨_, rfl, ⟨G, rfl, H.out.hG, lo, HF.out.1, HF.out.2, ?_⟩, H.out.old⟩
          have h := H.out.fld
          rwa [sq_pow m k 256 (by have := HK.out; omega) rfl] at h
    · obtain ⟨L, hL⟩ : ∃ L, 4294967295 - c = L := ⟨_, rfl⟩
      have hcl : c < 4294967296 := by rw [← hc]; exact Nat.mod_lt _ (by omega)
      obtain ⟨b, hb, hb0, hbl, hst⟩ := LowI.step H.out.1 HQ0.out (by rw [hq, hpr, hc]) he hL
      have hne : ¬ (c : Int) = 4294967295 := by omega
      have hx1 : bits .xor .u64 (if IntKind.u64.signed = true then -1 else IntKind.u64.max) (pr : Int) = ((18446744073709551615 - pr : Nat) : Int) := xor_ones (by omega)
      have hX : bits .and .u64 ((18446744073709551615 - pr : Nat) : Int) 4294967295 = (L : Int) := by
        have h := and_low32 (18446744073709551615 - pr) (by omega)
        rwa [show (18446744073709551615 - pr) % 4294967296 = L by omega] at h
      have hN : IntKind.u64.wrap (-(L : Int)) = ((18446744073709551616 - L : Nat) : Int) := by rw [IntKind.wrap_u64]; omega
      have hB : bits .and .u64 (L : Int) ((18446744073709551616 - L : Nat) : Int) = (b : Int) := by rw [bits_and_u64_nat _ _ (by omega) (by omega), hb]
      have hS : IntKind.u64.wrap ((lo : Int) + (b : Int)) = ((lo + b : Nat) : Int) := by rw [IntKind.wrap_u64]; omega
      have HS := Lib.hid (And.intro hst (And.intro hb0 hbl))
      obtain ⟨NL, hNL⟩ : ∃ NL, 18446744073709551616 - L = NL := ⟨_, rfl⟩
      obtain ⟨l2, hl2⟩ : ∃ l2, lo + b = l2 := ⟨_, rfl⟩
      rw [hNL] at hN hB
      rw [hl2] at hS HS
      have hE : IntKind.u64.wrap ((lo : Int) + bits .and .u64 (bits .and .u64 (bits .xor .u64 (if IntKind.u64.signed = true then -1 else IntKind.u64.max) (pr : Int)) 4294967295) (IntKind.u64.wrap (-bits .and .u64 (bits .xor .u64 (if IntKind.u64.signed = true then -1 else IntKind.u64.max) (pr : Int)) 4294967295))) = (l2 : Int) := by rw [hx1, hX, hN, hB, hS]
      have HE := Lib.hid hE
      clear hE hx1 hX hN hB hS
      have HL2 := Lib.hid (And.intro hl2 (lowOf_is H.out.2.fld))
      have hcn : ¬ c = 4294967295 := he
      clear hst hb hb0 hbl hNL hl2 hL hcl he hc hll hql hpl hq hpr HPR
      go_wp2_with fail
      go_region
      go_wp2_with fail
      go_region
      go_wp2_with fail
      go_roundw
      case rel => exact ⟨l2, Lib.hid ⟨HS.out.1, by rw [HE.out]; exact ⟨H.out.2.old.drew.drew.setCell H.out.2.hG _, H.out.2.hG, H.out.2.fld.lo l2⟩⟩⟩
      case measure =>
        rw [HE.out]
        have h1 : lowOf G (wr.setCell ⟨G, 12, none⟩ (.int .u64 (l2 : Nat))).drew.drew = l2 := lowOf_is (H.out.2.fld.lo l2)
        have h2 := HS.out.2
        have h3 := HL2.out
        show 4294967296 - lowOf G _ < 4294967296 - lowOf G _
        rw [h1, h3.2]
        omega
end Go.Proofs.Ytfgefifplmhopaa
namespace Go.Proofs.Ytfgefifplmhopaa
open Go.RowKit
theorem load_fq (g j : Nat) (p : Option Addr) (w : World) (h : w.cell? ⟨g, j, none⟩ = some (.pointer p)) : (Instr.loadAt 25 (.pointer (some ⟨g, j, none⟩))).run Try.prog w = .ok (.pointer p) w := by
  go_simp
/-- The three moduli. -/
def P3 (k : Nat) : Nat := if k = 0 then 115792089237316195423570985008687907853269984665640564039457584007908834671663 else if k = 1 then 115792089237316195423570985008687907852837564279074904382605163141518161494337 else 21888242871839275222246405745257275088696311157297823662689037894645226208583
theorem P3_ok (k : Nat) : P3 k % 2 = 1 ∧ 1 < P3 k ∧ P3 k < 115792089237316195423570985008687907853269984665640564039457584007913129639936 := by
  unfold P3
  split
  · omega
  · split <;> omega
theorem Fds.three {l f g h : Nat} (k : Nat) (hk : k < 3) : ∃ F, Pr (P3 k) ∧ ∀ w, Fds w l f g h → w.cell? ⟨l, k, none⟩ = some (.pointer (some ⟨F, 0, none⟩)) ∧ FldAt w F (P3 k) := by
  have : k = 0 ∨ k = 1 ∨ k = 2 := by omega
  rcases this with rfl | rfl | rfl
  · exact ⟨f, prm_115792089237316195423570985008687907853269984665640564039457584007908834671663, fun w c => ⟨(cell_of_row w l 0 _ _ _ c.row).trans rfl, c.c⟩⟩
  · exact ⟨g, prm_115792089237316195423570985008687907852837564279074904382605163141518161494337, fun w c => ⟨(cell_of_row w l 1 _ _ _ c.row).trans rfl, c.o⟩⟩
  · exact ⟨h, prm_21888242871839275222246405745257275088696311157297823662689037894645226208583, fun w c => ⟨(cell_of_row w l 2 _ _ _ c.row).trans rfl, c.b⟩⟩
theorem three_at {w : World} {M : Nat} {q : Nat → Nat} (h : w.heap[M]? = some (.cells (ar .u64 12 (tabF q)) 24 (0, 0))) (k j : Nat) (hk : k < 3) (hj : j < 4) : w.cell? ⟨M, k * 4 + j, none⟩ = some (.int .u64 ((pN (q k) j : Nat) : Int)) := by
  refine (cell_of_row _ _ (k * 4 + j) _ _ _ h).trans ((ar_at _ _ _ _ (by omega)).trans ?_)
  unfold tabF
  rw [show (k * 4 + j) / 4 = k by omega, show (k * 4 + j) % 4 = j by omega]
theorem ld_three {w : World} {M : Nat} {q : Nat → Nat} (h : w.heap[M]? = some (.cells (ar .u64 12 (tabF q)) 24 (0, 0))) (k : Nat) (hk : k < 3) : (Instr.loadAt 24 (.pointer (some ⟨M, k * 4, none⟩))).run Try.prog w = .ok (.agg (pw (q k))) w := by
  rw [pw_ar]
  simp only [Instr.loadAt, Instr.sureAddr, Sem.run_bind, Sem.run_pure, Result.andThen_ok, run_loadVar_part w M (k * 4) 4 24 .u64 (fun j => ((pN (q k) j : Nat) : Int)) _ (fun j hj => three_at h k j hk hj) Try.underlying24 rfl infoW4]
structure CF3 (w : World) (l f g h M : Nat) (L : List (Nat × Array Value)) (wx : World) : Prop where
  c : CF w l f g h L wx
  rM : wx.heap[M]? = some (.cells (ar .u64 12 (tabF P3)) 24 (0, 0))
theorem CF3.below {w wx w' : World} {l f g h M : Nat} {L : List (Nat × Array Value)} (c : CF3 w l f g h M L wx) (hb : Below wx.heap.size wx w') : CF3 w l f g h M L w' := ⟨c.c.below hb, (hb.block _ (Array.getElem?_eq_some_iff.1 c.rM).1).trans c.rM⟩
structure CF4 (w : World) (l f g h M G m : Nat) (L : List (Nat × Array Value)) (wx : World) : Prop where
  c : CF w l f g h L wx
  rM : wx.heap[M]? = some (.cells (ar .u64 12 (tabF P3)) 24 (0, 0))
  rf : RFld wx G m
theorem CF4.below {w wx w' : World} {l f g h M G m : Nat} {L : List (Nat × Array Value)} (c : CF4 w l f g h M G m L wx) (hb : Below wx.heap.size wx w') : CF4 w l f g h M G m L w' := ⟨c.c.below hb, (hb.block _ (Array.getElem?_eq_some_iff.1 c.rM).1).trans c.rM, c.rf.below hb⟩
theorem CF4.drew {w wx : World} {l f g h M G m : Nat} {L : List (Nat × Array Value)} (c : CF4 w l f g h M G m L wx) : CF4 w l f g h M G m L wx.drew := c.below (Below.drew (Below.refl _ _))
theorem CF4.lay {w wx : World} {l f g h M G m : Nat} {L : List (Nat × Array Value)} (c : CF4 w l f g h M G m L wx) (cs : Array Value) : CF4 w l f g h M G m ((wx.heap.size, cs) :: L) ((wx.alloc (.cells (#[.int .u64 0, .int .u64 0, .int .u64 0, .int .u64 0]) 24)).setRow wx.heap.size cs) := by
  have hb : Below wx.heap.size wx ((wx.alloc (.cells (#[.int .u64 0, .int .u64 0, .int .u64 0, .int .u64 0]) 24)).setRow wx.heap.size cs) := below_setRow ((Below.refl _ _).alloc (Nat.le_refl _) _) (Nat.le_refl _) _
  exact ⟨c.c.lay cs, (c.below hb).rM, (c.below hb).rf⟩
theorem CF4.cons {w wx : World} {l f g h M G m d : Nat} {L : List (Nat × Array Value)} {cs : Array Value} (c : CF4 w l f g h M G m L wx) (hr : wx.heap[d]? = some (.cells cs 24 (0, 0))) : CF4 w l f g h M G m ((d, cs) :: L) wx := by
  refine ⟨⟨c.c.old, c.c.fds, fun p hp => ?_⟩, c.rM, c.rf⟩
  rcases List.mem_cons.1 hp with rfl | hp
  · exact hr
  · exact c.c.rows p hp
theorem CF4.fld {w : World} {l f g h M G m F : Nat} {L : List (Nat × Array Value)} {fn : FuncId} {args : Array Value} {v : Value} (hf : ∀ wx, Fds wx l f g h → FldAt wx F m) (hc : ∀ wx, FldAt wx F m → Calls Try.prog fn args wx fun e w' => e = .returned v ∧ Below wx.heap.size wx w') : ∀ wx, CF4 w l f g h M G m L wx → Calls Try.prog fn args wx fun e w' => e = .returned v ∧ CF4 w l f g h M G m L w' :=
  fun wx c => (hc wx (hf wx c.c.fds)).mono fun _ _ hh => ⟨hh.1, c.below hh.2⟩
theorem CF4.ref {w : World} {l f g h M G m : Nat} {L : List (Nat × Array Value)} {fn : FuncId} {args : Array Value} {v : Value} (hc : ∀ wx, RFld wx G m → Calls Try.prog fn args wx fun e w' => e = .returned v ∧ Below wx.heap.size wx w') : ∀ wx, CF4 w l f g h M G m L wx → Calls Try.prog fn args wx fun e w' => e = .returned v ∧ CF4 w l f g h M G m L w' :=
  fun wx c => (hc wx c.rf).mono fun _ _ hh => ⟨hh.1, c.below hh.2⟩
set_option maxRecDepth 100000 in
set_option maxHeartbeats 8000000 in
theorem fcurves_any (a b : Nat) (ha : a < 115792089237316195423570985008687907853269984665640564039457584007913129639936) (hb : b < 115792089237316195423570985008687907853269984665640564039457584007913129639936) (w : World) : Calls Try.prog 4 #[.agg (pw a), .agg (pw b)] w fun e w' => e = .returned (.bool true) ∧ Below w.heap.size w w' := by
  have HAB := Lib.hid (And.intro ha hb)
  clear ha hb
  obtain ⟨v0, hv0⟩ : ∃ v0, 115792089237316195423570985008687907853269984665640564039457584007908834671663 = v0 := ⟨_, rfl⟩
  obtain ⟨v1, hv1⟩ : ∃ v1, 115792089237316195423570985008687907852837564279074904382605163141518161494337 = v1 := ⟨_, rfl⟩
  obtain ⟨v2, hv2⟩ : ∃ v2, 21888242871839275222246405745257275088696311157297823662689037894645226208583 = v2 := ⟨_, rfl⟩
  have HC0 := Lib.hid (fun wx => rcurve_any wx)
  have HC1 := Lib.hid (fun wx => rorder_any wx)
  have HC2 := Lib.hid (fun wx => rbase_any wx)
  rw [hv0, pw4] at HC0
  rw [hv1, pw4] at HC1
  rw [hv2, pw4] at HC2
  have HT := Lib.hid (show (#[.int .u64 ((pN v0 0 : Nat) : Int), .int .u64 ((pN v0 1 : Nat) : Int), .int .u64 ((pN v0 2 : Nat) : Int), .int .u64 ((pN v0 3 : Nat) : Int), .int .u64 ((pN v1 0 : Nat) : Int), .int .u64 ((pN v1 1 : Nat) : Int), .int .u64 ((pN v1 2 : Nat) : Int), .int .u64 ((pN v1 3 : Nat) : Int), .int .u64 ((pN v2 0 : Nat) : Int), .int .u64 ((pN v2 1 : Nat) : Int), .int .u64 ((pN v2 2 : Nat) : Int), .int .u64 ((pN v2 3 : Nat) : Int)] : Array Value) = ar .u64 12 (tabF P3) from by rw [← hv0, ← hv1, ← hv2]; kernel_rfl)
  clear hv0 hv1 hv2
  go_enter Try.func4, Try.ntmps4
  go_wp2_with fail
  refine (fields_any _).mono ?_
  rintro e w1 ⟨l, f, g, h, rfl, hfd, hb1⟩
  have H1 := Lib.hid (show CF w l f g h [(w.heap.size + 1, pw b), (w.heap.size, pw a)] w1 from by
    have hb0 : Below w.heap.size w (w.alloc (.cells (pw a) 24)) := (Below.refl _ _).alloc (Nat.le_refl _) _
    have hb2 : Below (w.heap.size + 1) (w.alloc (.cells (pw a) 24)) ((w.alloc (.cells (pw a) 24)).alloc (.cells (pw b) 24)) := (Below.refl _ _).alloc (by simp) _
    have hs : ((w.alloc (.cells (pw a) 24)).alloc (.cells (pw b) 24)).heap.size = w.heap.size + 1 + 1 := by simp
    have hr := heap_alloc_new (w.alloc (.cells (pw a) 24)) (.cells (pw b) 24)
    rw [World.size_alloc] at hr
    refine ⟨(hb0.trans (hb2.mono (by omega))).trans (hb1.mono (by omega)), hfd, fun p hp => ?_⟩
    simp only [List.mem_cons, List.not_mem_nil, or_false] at hp
    rcases hp with rfl | rfl
    · exact (hb1.block _ (by show w.heap.size + 1 < _; omega)).trans hr
    · exact (hb1.block _ (by show w.heap.size < _; omega)).trans ((hb2.block _ (by omega)).trans (heap_alloc_new _ _)))
  clear hfd hb1
  go_wp2_with fail
  refine (HC0.out _).mono ?_
  rintro e w2 ⟨rfl, hb2⟩
  have H2 := Lib.hid (H1.out.below hb2)
  clear hb2 H1 HC0
  go_wp2_with fail
  refine (HC1.out _).mono ?_
  rintro e w3 ⟨rfl, hb3⟩
  have H3 := Lib.hid (H2.out.below hb3)
  clear hb3 H2 HC1
  go_wp2_with fail
  refine (HC2.out _).mono ?_
  rintro e w4 ⟨rfl, hb4⟩
  have H4 := Lib.hid (H3.out.below hb4)
  clear hb4 H3 HC2
  go_wp2_with fail
  have H5 := Lib.hid (show CF3 w l f g h w4.heap.size [(w.heap.size + 1, pw b), (w.heap.size, pw a)] (w4.alloc (.cells (#[.int .u64 ((pN v0 0 : Nat) : Int), .int .u64 ((pN v0 1 : Nat) : Int), .int .u64 ((pN v0 2 : Nat) : Int), .int .u64 ((pN v0 3 : Nat) : Int), .int .u64 ((pN v1 0 : Nat) : Int), .int .u64 ((pN v1 1 : Nat) : Int), .int .u64 ((pN v1 2 : Nat) : Int), .int .u64 ((pN v1 3 : Nat) : Int), .int .u64 ((pN v2 0 : Nat) : Int), .int .u64 ((pN v2 1 : Nat) : Int), .int .u64 ((pN v2 2 : Nat) : Int), .int .u64 ((pN v2 3 : Nat) : Int)]) 24)) from
    ⟨H4.out.below ((Below.refl _ _).alloc (Nat.le_refl _) _), by rw [← HT.out]; exact heap_alloc_new _ _⟩)
  obtain ⟨w5, hw5⟩ : ∃ w5, w4.alloc (.cells (#[.int .u64 ((pN v0 0 : Nat) : Int), .int .u64 ((pN v0 1 : Nat) : Int), .int .u64 ((pN v0 2 : Nat) : Int), .int .u64 ((pN v0 3 : Nat) : Int), .int .u64 ((pN v1 0 : Nat) : Int), .int .u64 ((pN v1 1 : Nat) : Int), .int .u64 ((pN v1 2 : Nat) : Int), .int .u64 ((pN v1 3 : Nat) : Int), .int .u64 ((pN v2 0 : Nat) : Int), .int .u64 ((pN v2 1 : Nat) : Int), .int .u64 ((pN v2 2 : Nat) : Int), .int .u64 ((pN v2 3 : Nat) : Int)]) 24) = w5 := ⟨_, rfl⟩
  obtain ⟨M, hM⟩ : ∃ M, w4.heap.size = M := ⟨_, rfl⟩
  rw [hw5, hM] at H5
  rw [hw5, hM]
  clear hw5 hM H4 HT
  go_loopw [7] (fun iv wr => ∃ k : Nat, k ≤ 3 ∧ iv = .int .i64 k ∧ Hid (CF3 w l f g h M [(w.heap.size + 1, pw b), (w.heap.size, pw a)] wr)) (fun iv _ => 3 - (intOf iv).toNat)
  case atStart => exact ⟨0, by omega, rfl, H5⟩
  case round =>
    obtain ⟨k, hk, rfl, H⟩ := hrel
    clear H5
    have hk0 : (0 : Int) ≤ k := by omega
    by_cases hlt : k < 3
    · have hlt' : (k : Int) < 3 := by omega
      obtain ⟨F, hp, hat⟩ := Fds.three (l := l) (f := f) (g := g) (h := h) k hlt
      obtain ⟨po, p1, pl⟩ := P3_ok k
      have HLM := Lib.hid (fun (wx : World) (h : wx.heap[M]? = some (.cells (ar .u64 12 (tabF P3)) 24 (0, 0))) => ld_three h k hlt)
      obtain ⟨m, hm⟩ : ∃ m, P3 k = m := ⟨_, rfl⟩
      rw [hm] at hp hat po p1 pl HLM
      have p0 : 0 < m := by omega
      have HIX := Lib.hid (show ∀ wx, (Instr.indexAt 38 (.slice (some ⟨l, 0, none⟩) 3 3) (.int .i64 k)).run Try.prog wx = .ok (.pointer (some ⟨l, k, none⟩)) wx from fun wx => by go_simp)
      have HIM := Lib.hid (show ∀ wx, (Instr.indexAt 40 (.slice (some ⟨M, 0, none⟩) 3 3) (.int .i64 k)).run Try.prog wx = .ok (.pointer (some ⟨M, k * 4, none⟩)) wx from fun wx => by go_simp)
      have HLF := Lib.hid (fun wx (c : Fds wx l f g h) => load_fq l k _ wx (hat wx c).1)
      have HAT := Lib.hid (fun wx (c : Fds wx l f g h) => (hat wx c).2)
      have HNW := Lib.hid (fun wx => rnew_any m pl po p1 wx)
      have ha := HAB.out.1
      have hb := HAB.out.2
      obtain ⟨x, hx⟩ : ∃ x, a % m = x := ⟨_, rfl⟩
      obtain ⟨y, hy⟩ : ∃ y, b % m = y := ⟨_, rfl⟩
      obtain ⟨p, hpp⟩ : ∃ p, a * b % m = p := ⟨_, rfl⟩
      have hxm : x < m := hx ▸ Nat.mod_lt _ p0
      have hym : y < m := hy ▸ Nat.mod_lt _ p0
      have hpm : p < m := hpp ▸ Nat.mod_lt _ p0
      have hxy : x * y % m = p := by rw [← hx, ← hy, ← hpp, ← Nat.mul_mod]
      have HMD := Lib.hid (fun wx (hf : FldAt wx F m) => fmodulus_any F m wx hf)
      have HMU := Lib.hid (fun wx (hf : FldAt wx F m) => fmul_any F m a b ha hb wx hf)
      rw [hpp] at HMU
      have HOA := Lib.hid (fun G wx (hf : RFld wx G m) => Exists.elim hf fun lo hh => rof_any G m lo _ a ha p0 pl wx hh.2.2)
      rw [hx] at HOA
      have HOB := Lib.hid (fun G wx (hf : RFld wx G m) => Exists.elim hf fun lo hh => rof_any G m lo _ b hb p0 pl wx hh.2.2)
      rw [hy] at HOB
      have HRM := Lib.hid (fun G wx (hf : RFld wx G m) => rmul_any G m x y hxm hym pl p1 po wx hf)
      rw [hxy] at HRM
      have HIV := Lib.hid (fun wx (hf : FldAt wx F m) => finv_prime hp ha wx hf)
      obtain ⟨iv, hiv⟩ : ∃ iv, (if m ∣ a then 0 else invN m a) = iv := ⟨_, rfl⟩
      obtain ⟨is, his⟩ : ∃ is, decide (¬ m ∣ a) = is := ⟨_, rfl⟩
      rw [hiv, his] at HIV
      have hvl : iv < 115792089237316195423570985008687907853269984665640564039457584007913129639936 := by rw [← hiv]; split; exact Nat.lt_trans p0 pl; exact Nat.lt_trans (invN_lt hp a) pl
      have HMI := Lib.hid (show is = true → ∀ wx, FldAt wx F m → Calls Try.prog 15 #[.pointer (some ⟨F, 0, none⟩), .agg (pw iv), .agg (pw a)] wx fun e w' => e = .returned (.agg (pw 1)) ∧ Below wx.heap.size wx w' from fun hi wx hf => by
        have hn : ¬ m ∣ a := of_decide_eq_true (his.trans hi)
        have h1 := fmul_any F m iv a hvl ha wx hf
        rw [show iv * a % m = 1 from by rw [← hiv, if_neg hn, Nat.mul_comm]; exact (invN_iff hp).2 hn] at h1
        exact h1)
      have z0 : (#[.int .u64 0, .int .u64 0, .int .u64 0, .int .u64 0] : Array Value) = pw 0 := by kernel_rfl
      have HXZ := Lib.hid (show ∀ wx, (binOp BinOp.neq 24 (.agg (pw x)) (.agg #[.int .u64 0, .int .u64 0, .int .u64 0, .int .u64 0])).run Try.prog wx = .ok (.bool is) wx from fun wx => by
        rw [z0, new_run x 0 (Nat.lt_trans hxm pl) (by omega) wx, ← his, ← hx]
        congr 2
        by_cases hd : m ∣ a
        · rw [decide_eq_true (Nat.mod_eq_zero_of_dvd hd), decide_eq_false (by simpa using hd)]; rfl
        · rw [decide_eq_false (fun h => hd (Nat.dvd_of_mod_eq_zero h)), decide_eq_true hd]; rfl)
      have HNM := Lib.hid (show ∀ wx, (binOp BinOp.neq 24 (.agg (pw m)) (.agg (pw m))).run Try.prog wx = .ok (.bool false) wx from fun wx => by simpa using new_run m m pl pl wx)
      have HNP := Lib.hid (show ∀ wx, (binOp BinOp.neq 24 (.agg (pw p)) (.agg (pw p))).run Try.prog wx = .ok (.bool false) wx from fun wx => by simpa using new_run p p (Nat.lt_trans hpm pl) (Nat.lt_trans hpm pl) wx)
      have HN1 := Lib.hid (show ∀ wx, (binOp BinOp.neq 24 (.agg (pw 1)) (.agg (pw 1))).run Try.prog wx = .ok (.bool false) wx from fun wx => by simpa using new_run 1 1 (by omega) (by omega) wx)
      have HK := Lib.hid (And.intro hlt (And.intro hk0 hlt'))
      clear hp hat po p1 pl hm p0 ha hb hx hy hpp hxm hym hpm hxy hiv his hvl z0 hlt hk
      go_wp2_with (refine wpList_ld rfl 24 _ rfl (.pointer (some ⟨M, k * 4, none⟩)) (.agg (pw m)) rfl (HLM.out _ (by exact H.out.rM)) ?_)
      refine (HNW.out _).mono ?_
      rintro e w6 ⟨v, rfl, ⟨G, rfl, -, lo, e1, e2, e3⟩, hb6⟩
      have H6 := Lib.hid (show CF4 w l f g h M G m [(w.heap.size + 1, pw b), (w.heap.size, pw a)] w6 from ⟨(H.out.below hb6).c, (H.out.below hb6).rM, lo, e1, e2, e3⟩)
      clear hb6 e1 e2 e3 H HNW
      go_wp2_with (refine wpList_ld rfl 24 _ rfl (.pointer (some ⟨w.heap.size, 0, none⟩)) (.agg (pw a)) rfl (ld_pw (by exact H6.out.c.is _ _ (by simp))) ?_)
      refine (HOA.out G _ H6.out.rf).mono ?_
      rintro e w7 ⟨rfl, hb7⟩
      have H7 := Lib.hid ((H6.out.below hb7).lay (pw x))
      have G7 := Lib.hid (heap_alloc_new w7 (.cells (#[.int .u64 0, .int .u64 0, .int .u64 0, .int .u64 0]) 24))
      clear hb7 H6 HOA
      go_upto_region 9 with (refine wpList_store_row rfl 24 _ _ rfl w7.heap.size (pw x) rfl rfl 24 (#[.int .u64 0, .int .u64 0, .int .u64 0, .int .u64 0]) (by exact G7.out) (by rw [pw_size]; exact infoW4) (by rw [pw_size]; rfl) (pw_one _) ?_)
      obtain ⟨w8, hw8⟩ : ∃ w8, (w7.alloc (.cells (#[.int .u64 0, .int .u64 0, .int .u64 0, .int .u64 0]) 24)).setRow w7.heap.size (pw x) = w8 := ⟨_, rfl⟩
      obtain ⟨g9, hg9⟩ : ∃ g9, w7.heap.size = g9 := ⟨_, rfl⟩
      rw [hw8, hg9] at H7
      rw [hw8, hg9]
      clear hw8 hg9 G7
      refine wp_region_quiet (C := CF4 w l f g h M G m ((g9, pw x) :: [(w.heap.size + 1, pw b), (w.heap.size, pw a)])) (by kernel_rfl) (by kernel_rfl) (H7.out.drew) ?_
      simp only
      with_reducible refine q_val (.slice (some ⟨l, 0, none⟩) 3 3) (by kernel_rfl) (fun _ _ => by kernel_rfl) ?_
      with_reducible refine q_val (.int .i64 k) (by kernel_rfl) (fun _ _ => by kernel_rfl) ?_
      with_reducible refine q_sem2 (Instr.indexAt 38 (.slice (some ⟨l, 0, none⟩) 3 3) (.int .i64 k)) (.pointer (some ⟨l, k, none⟩)) (by kernel_rfl) (by kernel_rfl) (fun w' _ => HIX.out w') ?_
      with_reducible refine q_load 25 (.tmp 34) (.pointer (some ⟨l, k, none⟩)) (.pointer (some ⟨F, 0, none⟩)) rfl (by kernel_rfl) (by kernel_rfl) (fun w' c => HLF.out w' c.c.fds) ?_
      with_reducible refine q_call 11 #[.pointer (some ⟨F, 0, none⟩)] (.agg (pw m)) (by kernel_rfl) (fun _ => by kernel_rfl) (CF4.fld HAT.out HMD.out) ?_
      with_reducible refine q_val (.slice (some ⟨M, 0, none⟩) 3 3) (by kernel_rfl) (fun _ _ => by kernel_rfl) ?_
      with_reducible refine q_val (.int .i64 k) (by kernel_rfl) (fun _ _ => by kernel_rfl) ?_
      with_reducible refine q_sem2 (Instr.indexAt 40 (.slice (some ⟨M, 0, none⟩) 3 3) (.int .i64 k)) (.pointer (some ⟨M, k * 4, none⟩)) (by kernel_rfl) (by kernel_rfl) (fun w' _ => HIM.out w') ?_
      with_reducible refine q_load 24 (.tmp 39) (.pointer (some ⟨M, k * 4, none⟩)) (.agg (pw m)) rfl (by kernel_rfl) (by kernel_rfl) (fun _ c => HLM.out _ c.rM) ?_
      with_reducible refine q_bin .neq 24 _ _ 24 (.agg (pw m)) (.agg (pw m)) (.bool false) rfl (by kernel_rfl) (by kernel_rfl) (by kernel_rfl) (fun _ => by kernel_rfl) (fun w' => HNM.out w') ?_
      with_reducible refine q_val (.bool false) (by kernel_rfl) (fun _ _ => by kernel_rfl) ?_
      with_reducible refine q_val (.slice (some ⟨l, 0, none⟩) 3 3) (by kernel_rfl) (fun _ _ => by kernel_rfl) ?_
      with_reducible refine q_val (.int .i64 k) (by kernel_rfl) (fun _ _ => by kernel_rfl) ?_
      with_reducible refine q_sem2 (Instr.indexAt 38 (.slice (some ⟨l, 0, none⟩) 3 3) (.int .i64 k)) (.pointer (some ⟨l, k, none⟩)) (by kernel_rfl) (by kernel_rfl) (fun w' _ => HIX.out w') ?_
      with_reducible refine q_load 25 (.tmp 45) (.pointer (some ⟨l, k, none⟩)) (.pointer (some ⟨F, 0, none⟩)) rfl (by kernel_rfl) (by kernel_rfl) (fun w' c => HLF.out w' c.c.fds) ?_
      with_reducible refine q_load 24 (.tmp 2) (.pointer (some ⟨w.heap.size, 0, none⟩)) (.agg (pw a)) rfl (by kernel_rfl) (by kernel_rfl) (fun _ c => ld_pw (c.c.is _ _ (by simp))) ?_
      with_reducible refine q_load 24 (.tmp 3) (.pointer (some ⟨w.heap.size + 1, 0, none⟩)) (.agg (pw b)) rfl (by kernel_rfl) (by kernel_rfl) (fun _ c => ld_pw (c.c.is _ _ (by simp))) ?_
      with_reducible refine q_call 15 #[.pointer (some ⟨F, 0, none⟩), .agg (pw a), .agg (pw b)] (.agg (pw p)) (by kernel_rfl) (fun _ => by kernel_rfl) (CF4.fld HAT.out HMU.out) ?_
      with_reducible refine q_val (.pointer (some ⟨G, 0, none⟩)) (by kernel_rfl) (fun _ _ => by kernel_rfl) ?_
      with_reducible refine q_load 24 (.tmp 9) (.pointer (some ⟨g9, 0, none⟩)) (.agg (pw x)) rfl (by kernel_rfl) (by kernel_rfl) (fun _ c => ld_pw (c.c.is _ _ (by simp))) ?_
      with_reducible refine q_val (.pointer (some ⟨G, 0, none⟩)) (by kernel_rfl) (fun _ _ => by kernel_rfl) ?_
      with_reducible refine q_load 24 (.tmp 3) (.pointer (some ⟨w.heap.size + 1, 0, none⟩)) (.agg (pw b)) rfl (by kernel_rfl) (by kernel_rfl) (fun _ c => ld_pw (c.c.is _ _ (by simp))) ?_
      with_reducible refine q_call 25 #[.pointer (some ⟨G, 0, none⟩), .agg (pw b)] (.agg (pw y)) (by kernel_rfl) (fun _ => by kernel_rfl) (CF4.ref (HOB.out G)) ?_
      with_reducible refine q_call 26 #[.pointer (some ⟨G, 0, none⟩), .agg (pw x), .agg (pw y)] (.agg (pw p)) (by kernel_rfl) (fun _ => by kernel_rfl) (CF4.ref (HRM.out G)) ?_
      with_reducible refine q_bin .neq 24 _ _ 24 (.agg (pw p)) (.agg (pw p)) (.bool false) rfl (by kernel_rfl) (by kernel_rfl) (by kernel_rfl) (fun _ => by kernel_rfl) (fun w' => HNP.out w') ?_
      with_reducible refine q_val (.bool false) (by kernel_rfl) (fun _ _ => by kernel_rfl) ?_
      with_reducible refine wpQuiet_nil ?_
      intro wx hC
      have HC := Lib.hid hC
      clear hC H7
      simp only [Act.put, List.setIfInBounds_toArray, List.set_cons_succ, List.set_cons_zero]
      go_wp2_with fail
      refine region_many [.val 59 ((.slice (some ⟨l, 0, none⟩) 3 3)), .val 60 ((.int .i64 k)), .val 61 ((.pointer (some ⟨l, k, none⟩))), .val 62 ((.pointer (some ⟨F, 0, none⟩))), .val 63 ((.agg (pw a))), .val 64 ((.tuple #[.agg (pw iv), .bool is])), .val 58 ((.tuple #[.agg (pw iv), .bool is])), .val 65 ((.agg (pw iv))), .val 66 ((.bool is)), .blk 10 24, .laid 10 24, .val 11 ((.bool is))] [10] (fun p => pw iv) (fun i => i) (by kernel_rfl) (by kernel_rfl) (by exact ⟨trivial, trivial, trivial, trivial, trivial, trivial, trivial, trivial, trivial, (by simp [Sp.ok]), (by simp [Sp.ok]), trivial, trivial⟩) (by intro p hp q hq hne; simp only [List.mem_cons, List.not_mem_nil, or_false] at hp hq; exact absurd (hp.trans hq.symm) hne) ?_ ?_
      · refine ⟨?_, ?_, ?_, ?_, ?_, ?_, ?_, ?_, ?_, ?_, ?_, ?_, trivial⟩
        · intro ac wx hC hsz hK
          have h0 : ac.tmps.getD 5 undef = (.slice (some ⟨l, 0, none⟩) 3 3) := hK.1 5 (by kernel_rfl)
          exact mm_val ((.slice (some ⟨l, 0, none⟩) 3 3)) rfl (by kernel_rfl) (by rw [← h0]; kernel_rfl) hC (by kernel_rfl) (by rw [hsz]; exact of_decide_eq_true (by kernel_rfl)) rfl
        · intro ac wx hC hsz hK
          have h0 : ac.tmps.getD 7 undef = (.int .i64 k) := hK.1 7 (by kernel_rfl)
          exact mm_val ((.int .i64 k)) rfl (by kernel_rfl) (by rw [← h0]; kernel_rfl) hC (by kernel_rfl) (by rw [hsz]; exact of_decide_eq_true (by kernel_rfl)) rfl
        · intro ac wx hC hsz hK
          have h0 : ac.tmps.getD 59 undef = (.slice (some ⟨l, 0, none⟩) 3 3) := hK.2 ⟨0, .data⟩ (by simp) rfl _ rfl
          have h1 : ac.tmps.getD 60 undef = (.int .i64 k) := hK.2 ⟨1, .data⟩ (by simp) rfl _ rfl
          refine mm_sem (Instr.indexAt 38 (ac.tmps.getD 59 undef) (ac.tmps.getD 60 undef)) ((.pointer (some ⟨l, k, none⟩))) rfl (by kernel_rfl) (by kernel_rfl) ?_ hC (by kernel_rfl) (by rw [hsz]; exact of_decide_eq_true (by kernel_rfl)) rfl
          rw [h0, h1]
          exact HIX.out wx
        · intro ac wx hC hsz hK
          have h0 : ac.tmps.getD 61 undef = (.pointer (some ⟨l, k, none⟩)) := hK.2 ⟨2, .data⟩ (by simp) rfl _ rfl
          exact mm_load 25 (.tmp 61) ((.pointer (some ⟨l, k, none⟩))) ((.pointer (some ⟨F, 0, none⟩))) rfl rfl (by kernel_rfl) h0 (HLF.out wx (HC.out.below hC.1).c.fds) hC (by kernel_rfl) (by rw [hsz]; exact of_decide_eq_true (by kernel_rfl)) rfl
        · intro ac wx hC hsz hK
          have h0 : ac.tmps.getD 2 undef = (.pointer (some ⟨w.heap.size, 0, none⟩)) := hK.1 2 (by kernel_rfl)
          exact mm_load 24 (.tmp 2) ((.pointer (some ⟨w.heap.size, 0, none⟩))) ((.agg (pw a))) rfl rfl (by kernel_rfl) h0 (ld_pw ((HC.out.below hC.1).c.is _ _ (by simp))) hC (by kernel_rfl) (by rw [hsz]; exact of_decide_eq_true (by kernel_rfl)) rfl
        · intro ac wx hC hsz hK
          have h0 : ac.tmps.getD 62 undef = (.pointer (some ⟨F, 0, none⟩)) := hK.2 ⟨3, .data⟩ (by simp) rfl _ rfl
          have h1 : ac.tmps.getD 63 undef = (.agg (pw a)) := hK.2 ⟨4, .data⟩ (by simp) rfl _ rfl
          refine mm_call 27 #[ac.tmps.getD 62 undef, ac.tmps.getD 63 undef] ((.tuple #[.agg (pw iv), .bool is])) rfl (by kernel_rfl) (by kernel_rfl) ?_ hC (by kernel_rfl) (by rw [hsz]; exact of_decide_eq_true (by kernel_rfl)) rfl
          rw [h0, h1]
          exact HIV.out wx (HAT.out wx (HC.out.below hC.1).c.fds)
        · intro ac wx hC hsz hK
          have h0 : ac.tmps.getD 64 undef = (.tuple #[.agg (pw iv), .bool is]) := hK.2 ⟨5, .data⟩ (by simp) rfl _ rfl
          exact mm_val ((.tuple #[.agg (pw iv), .bool is])) rfl (by kernel_rfl) (by rw [← h0]; kernel_rfl) hC (by kernel_rfl) (by rw [hsz]; exact of_decide_eq_true (by kernel_rfl)) rfl
        · intro ac wx hC hsz hK
          have h0 : ac.tmps.getD 58 undef = (.tuple #[.agg (pw iv), .bool is]) := hK.2 ⟨6, .data⟩ (by simp) rfl _ rfl
          refine mm_sem (Instr.extract (ac.tmps.getD 58 undef) 0) ((.agg (pw iv))) rfl (by kernel_rfl) (by kernel_rfl) ?_ hC (by kernel_rfl) (by rw [hsz]; exact of_decide_eq_true (by kernel_rfl)) rfl
          rw [h0]
          exact (by kernel_rfl)
        · intro ac wx hC hsz hK
          have h0 : ac.tmps.getD 58 undef = (.tuple #[.agg (pw iv), .bool is]) := hK.2 ⟨6, .data⟩ (by simp) rfl _ rfl
          refine mm_sem (Instr.extract (ac.tmps.getD 58 undef) 1) ((.bool is)) rfl (by kernel_rfl) (by kernel_rfl) ?_ hC (by kernel_rfl) (by rw [hsz]; exact of_decide_eq_true (by kernel_rfl)) rfl
          rw [h0]
          exact (by kernel_rfl)
        · intro ac wx hC hsz hK
          exact mm_new 24 (#[.int .u64 0, .int .u64 0, .int .u64 0, .int .u64 0]) rfl (by kernel_rfl) (by kernel_rfl) hC (by rw [pw_size]; rfl) (by rw [hsz]; exact of_decide_eq_true (by kernel_rfl)) rfl
        · intro ac wx hC hsz hK
          have h0 : ac.tmps.getD 65 undef = (.agg (pw iv)) := hK.2 ⟨7, .data⟩ (by simp) rfl _ rfl
          exact mm_store (p := 10) 24 (.tmp 10) (.tmp 65) _ rfl rfl (by kernel_rfl) rfl h0 (by simp) (hK.2 ⟨9, .data⟩ (by simp) rfl _ rfl) (fun D cs h3 h4 => store_w (h4.trans (pw_size _)) h3) hC rfl
        · intro ac wx hC hsz hK
          have h0 : ac.tmps.getD 66 undef = (.bool is) := hK.2 ⟨8, .data⟩ (by simp) rfl _ rfl
          exact mm_val ((.bool is)) rfl (by kernel_rfl) (by rw [← h0]; kernel_rfl) hC (by kernel_rfl) (by rw [hsz]; exact of_decide_eq_true (by kernel_rfl)) rfl
      intro f1 w9 hb9 hap hf9
      obtain ⟨D10, s10, -, r10⟩ := hf9 10 _ rfl
      have s11 := hf9 11 _ rfl
      have H9 := Lib.hid ((HC.out.below hb9).cons r10)
      clear hf9 hap hb9 HC HIV r10
      generalize hAct : putAll _ _ _ = A1 at *
      have s0 : A1.tmps.getD 0 undef = .agg (pw a) := by subst hAct; kernel_rfl
      have s1 : A1.tmps.getD 1 undef = .agg (pw b) := by subst hAct; kernel_rfl
      have s2 : A1.tmps.getD 2 undef = (.pointer (some ⟨w.heap.size, 0, none⟩)) := by subst hAct; kernel_rfl
      have s3 : A1.tmps.getD 3 undef = (.pointer (some ⟨w.heap.size + 1, 0, none⟩)) := by subst hAct; kernel_rfl
      have s5 : A1.tmps.getD 5 undef = (.slice (some ⟨l, 0, none⟩) 3 3) := by subst hAct; kernel_rfl
      have s6 : A1.tmps.getD 6 undef = (.slice (some ⟨M, 0, none⟩) 3 3) := by subst hAct; kernel_rfl
      have s7 : A1.tmps.getD 7 undef = (.int .i64 k) := by subst hAct; kernel_rfl
      have s8 : A1.tmps.getD 8 undef = (.pointer (some ⟨G, 0, none⟩)) := by subst hAct; kernel_rfl
      have s9 : A1.tmps.getD 9 undef = (.pointer (some ⟨g9, 0, none⟩)) := by subst hAct; kernel_rfl
      have s12 : A1.tmps.getD 12 undef = (.slice (some ⟨l, 0, none⟩) 3 3) := by subst hAct; kernel_rfl
      have s13 : A1.tmps.getD 13 undef = .agg #[.int .u64 ((pN v0 0 : Nat) : Int), .int .u64 ((pN v0 1 : Nat) : Int), .int .u64 ((pN v0 2 : Nat) : Int), .int .u64 ((pN v0 3 : Nat) : Int)] := by subst hAct; kernel_rfl
      have s14 : A1.tmps.getD 14 undef = .agg #[.int .u64 ((pN v1 0 : Nat) : Int), .int .u64 ((pN v1 1 : Nat) : Int), .int .u64 ((pN v1 2 : Nat) : Int), .int .u64 ((pN v1 3 : Nat) : Int)] := by subst hAct; kernel_rfl
      have s15 : A1.tmps.getD 15 undef = .agg #[.int .u64 ((pN v2 0 : Nat) : Int), .int .u64 ((pN v2 1 : Nat) : Int), .int .u64 ((pN v2 2 : Nat) : Int), .int .u64 ((pN v2 3 : Nat) : Int)] := by subst hAct; kernel_rfl
      have s16 : A1.tmps.getD 16 undef = (.slice (some ⟨M, 0, none⟩) 3 3) := by subst hAct; kernel_rfl
      have s17 : A1.tmps.getD 17 undef = (.slice (some ⟨l, 0, none⟩) 3 3) := by subst hAct; kernel_rfl
      have s18 : A1.tmps.getD 18 undef = .int .i64 3 := by subst hAct; kernel_rfl
      have s19 : A1.tmps.getD 19 undef = .bool false := by subst hAct; kernel_rfl
      have s86 : A1.tmps.getD 86 undef = undef := by subst hAct; kernel_rfl
      have s10' : A1.tmps.getD 10 undef = .pointer (some ⟨D10, 0, none⟩) := s10
      have s11' : A1.tmps.getD 11 undef = .bool is := s11
      have hsz : A1.tmps.size = 87 := by rw [← hAct, putAll_size]; rfl
      have hdf : A1.defers = [] := by subst hAct; kernel_rfl
      clear hAct s10 s11 f1
      obtain ⟨u4, t4⟩ : ∃ u, A1.tmps.getD 4 undef = u := ⟨_, rfl⟩
      obtain ⟨u20, t20⟩ : ∃ u, A1.tmps.getD 20 undef = u := ⟨_, rfl⟩
      obtain ⟨u21, t21⟩ : ∃ u, A1.tmps.getD 21 undef = u := ⟨_, rfl⟩
      obtain ⟨u22, t22⟩ : ∃ u, A1.tmps.getD 22 undef = u := ⟨_, rfl⟩
      obtain ⟨u23, t23⟩ : ∃ u, A1.tmps.getD 23 undef = u := ⟨_, rfl⟩
      obtain ⟨u24, t24⟩ : ∃ u, A1.tmps.getD 24 undef = u := ⟨_, rfl⟩
      obtain ⟨u25, t25⟩ : ∃ u, A1.tmps.getD 25 undef = u := ⟨_, rfl⟩
      obtain ⟨u26, t26⟩ : ∃ u, A1.tmps.getD 26 undef = u := ⟨_, rfl⟩
      obtain ⟨u27, t27⟩ : ∃ u, A1.tmps.getD 27 undef = u := ⟨_, rfl⟩
      obtain ⟨u28, t28⟩ : ∃ u, A1.tmps.getD 28 undef = u := ⟨_, rfl⟩
      obtain ⟨u29, t29⟩ : ∃ u, A1.tmps.getD 29 undef = u := ⟨_, rfl⟩
      obtain ⟨u30, t30⟩ : ∃ u, A1.tmps.getD 30 undef = u := ⟨_, rfl⟩
      obtain ⟨u31, t31⟩ : ∃ u, A1.tmps.getD 31 undef = u := ⟨_, rfl⟩
      obtain ⟨u32, t32⟩ : ∃ u, A1.tmps.getD 32 undef = u := ⟨_, rfl⟩
      obtain ⟨u33, t33⟩ : ∃ u, A1.tmps.getD 33 undef = u := ⟨_, rfl⟩
      obtain ⟨u34, t34⟩ : ∃ u, A1.tmps.getD 34 undef = u := ⟨_, rfl⟩
      obtain ⟨u35, t35⟩ : ∃ u, A1.tmps.getD 35 undef = u := ⟨_, rfl⟩
      obtain ⟨u36, t36⟩ : ∃ u, A1.tmps.getD 36 undef = u := ⟨_, rfl⟩
      obtain ⟨u37, t37⟩ : ∃ u, A1.tmps.getD 37 undef = u := ⟨_, rfl⟩
      obtain ⟨u38, t38⟩ : ∃ u, A1.tmps.getD 38 undef = u := ⟨_, rfl⟩
      obtain ⟨u39, t39⟩ : ∃ u, A1.tmps.getD 39 undef = u := ⟨_, rfl⟩
      obtain ⟨u40, t40⟩ : ∃ u, A1.tmps.getD 40 undef = u := ⟨_, rfl⟩
      obtain ⟨u41, t41⟩ : ∃ u, A1.tmps.getD 41 undef = u := ⟨_, rfl⟩
      obtain ⟨u42, t42⟩ : ∃ u, A1.tmps.getD 42 undef = u := ⟨_, rfl⟩
      obtain ⟨u43, t43⟩ : ∃ u, A1.tmps.getD 43 undef = u := ⟨_, rfl⟩
      obtain ⟨u44, t44⟩ : ∃ u, A1.tmps.getD 44 undef = u := ⟨_, rfl⟩
      obtain ⟨u45, t45⟩ : ∃ u, A1.tmps.getD 45 undef = u := ⟨_, rfl⟩
      obtain ⟨u46, t46⟩ : ∃ u, A1.tmps.getD 46 undef = u := ⟨_, rfl⟩
      obtain ⟨u47, t47⟩ : ∃ u, A1.tmps.getD 47 undef = u := ⟨_, rfl⟩
      obtain ⟨u48, t48⟩ : ∃ u, A1.tmps.getD 48 undef = u := ⟨_, rfl⟩
      obtain ⟨u49, t49⟩ : ∃ u, A1.tmps.getD 49 undef = u := ⟨_, rfl⟩
      obtain ⟨u50, t50⟩ : ∃ u, A1.tmps.getD 50 undef = u := ⟨_, rfl⟩
      obtain ⟨u51, t51⟩ : ∃ u, A1.tmps.getD 51 undef = u := ⟨_, rfl⟩
      obtain ⟨u52, t52⟩ : ∃ u, A1.tmps.getD 52 undef = u := ⟨_, rfl⟩
      obtain ⟨u53, t53⟩ : ∃ u, A1.tmps.getD 53 undef = u := ⟨_, rfl⟩
      obtain ⟨u54, t54⟩ : ∃ u, A1.tmps.getD 54 undef = u := ⟨_, rfl⟩
      obtain ⟨u55, t55⟩ : ∃ u, A1.tmps.getD 55 undef = u := ⟨_, rfl⟩
      obtain ⟨u56, t56⟩ : ∃ u, A1.tmps.getD 56 undef = u := ⟨_, rfl⟩
      obtain ⟨u57, t57⟩ : ∃ u, A1.tmps.getD 57 undef = u := ⟨_, rfl⟩
      obtain ⟨u58, t58⟩ : ∃ u, A1.tmps.getD 58 undef = u := ⟨_, rfl⟩
      obtain ⟨u59, t59⟩ : ∃ u, A1.tmps.getD 59 undef = u := ⟨_, rfl⟩
      obtain ⟨u60, t60⟩ : ∃ u, A1.tmps.getD 60 undef = u := ⟨_, rfl⟩
      obtain ⟨u61, t61⟩ : ∃ u, A1.tmps.getD 61 undef = u := ⟨_, rfl⟩
      obtain ⟨u62, t62⟩ : ∃ u, A1.tmps.getD 62 undef = u := ⟨_, rfl⟩
      obtain ⟨u63, t63⟩ : ∃ u, A1.tmps.getD 63 undef = u := ⟨_, rfl⟩
      obtain ⟨u64, t64⟩ : ∃ u, A1.tmps.getD 64 undef = u := ⟨_, rfl⟩
      obtain ⟨u65, t65⟩ : ∃ u, A1.tmps.getD 65 undef = u := ⟨_, rfl⟩
      obtain ⟨u66, t66⟩ : ∃ u, A1.tmps.getD 66 undef = u := ⟨_, rfl⟩
      obtain ⟨u67, t67⟩ : ∃ u, A1.tmps.getD 67 undef = u := ⟨_, rfl⟩
      obtain ⟨u68, t68⟩ : ∃ u, A1.tmps.getD 68 undef = u := ⟨_, rfl⟩
      obtain ⟨u69, t69⟩ : ∃ u, A1.tmps.getD 69 undef = u := ⟨_, rfl⟩
      obtain ⟨u70, t70⟩ : ∃ u, A1.tmps.getD 70 undef = u := ⟨_, rfl⟩
      obtain ⟨u71, t71⟩ : ∃ u, A1.tmps.getD 71 undef = u := ⟨_, rfl⟩
      obtain ⟨u72, t72⟩ : ∃ u, A1.tmps.getD 72 undef = u := ⟨_, rfl⟩
      obtain ⟨u73, t73⟩ : ∃ u, A1.tmps.getD 73 undef = u := ⟨_, rfl⟩
      obtain ⟨u74, t74⟩ : ∃ u, A1.tmps.getD 74 undef = u := ⟨_, rfl⟩
      obtain ⟨u75, t75⟩ : ∃ u, A1.tmps.getD 75 undef = u := ⟨_, rfl⟩
      obtain ⟨u76, t76⟩ : ∃ u, A1.tmps.getD 76 undef = u := ⟨_, rfl⟩
      obtain ⟨u77, t77⟩ : ∃ u, A1.tmps.getD 77 undef = u := ⟨_, rfl⟩
      obtain ⟨u78, t78⟩ : ∃ u, A1.tmps.getD 78 undef = u := ⟨_, rfl⟩
      obtain ⟨u79, t79⟩ : ∃ u, A1.tmps.getD 79 undef = u := ⟨_, rfl⟩
      obtain ⟨u80, t80⟩ : ∃ u, A1.tmps.getD 80 undef = u := ⟨_, rfl⟩
      obtain ⟨u81, t81⟩ : ∃ u, A1.tmps.getD 81 undef = u := ⟨_, rfl⟩
      obtain ⟨u82, t82⟩ : ∃ u, A1.tmps.getD 82 undef = u := ⟨_, rfl⟩
      obtain ⟨u83, t83⟩ : ∃ u, A1.tmps.getD 83 undef = u := ⟨_, rfl⟩
      obtain ⟨u84, t84⟩ : ∃ u, A1.tmps.getD 84 undef = u := ⟨_, rfl⟩
      obtain ⟨u85, t85⟩ : ∃ u, A1.tmps.getD 85 undef = u := ⟨_, rfl⟩
      obtain ⟨tm, df⟩ := A1
      simp only at *
      have hLt := arr_litS tm
      rw [hsz] at hLt
      simp only [List.range, List.range.loop, List.map] at hLt
      rw [s0, s1, s2, s3, t4, s5, s6, s7, s8, s9, s10', s11', s12, s13, s14, s15, s16, s17, s18, s19, t20, t21, t22, t23, t24, t25, t26, t27, t28, t29, t30, t31, t32, t33, t34, t35, t36, t37, t38, t39, t40, t41, t42, t43, t44, t45, t46, t47, t48, t49, t50, t51, t52, t53, t54, t55, t56, t57, t58, t59, t60, t61, t62, t63, t64, t65, t66, t67, t68, t69, t70, t71, t72, t73, t74, t75, t76, t77, t78, t79, t80, t81, t82, t83, t84, t85, s86] at hLt
      subst hLt hdf
      clear s0 s1 s2 s3 t4 s5 s6 s7 s8 s9 s10' s11' s12 s13 s14 s15 s16 s17 s18 s19 t20 t21 t22 t23 t24 t25 t26 t27 t28 t29 t30 t31 t32 t33 t34 t35 t36 t37 t38 t39 t40 t41 t42 t43 t44 t45 t46 t47 t48 t49 t50 t51 t52 t53 t54 t55 t56 t57 t58 t59 t60 t61 t62 t63 t64 t65 t66 t67 t68 t69 t70 t71 t72 t73 t74 t75 t76 t77 t78 t79 t80 t81 t82 t83 t84 t85 s86 hsz
      go_wp2_with fail
      cases is with
      | true =>
        have HM1 := Lib.hid (HMI.out rfl)
        clear HMI
        refine wp_region_quiet (C := CF4 w l f g h M G m ((D10, pw iv) :: (g9, pw x) :: [(w.heap.size + 1, pw b), (w.heap.size, pw a)])) (by kernel_rfl) (by kernel_rfl) (H9.out.drew) ?_
        simp only
        with_reducible refine q_val (.bool true) (by kernel_rfl) (fun _ _ => by kernel_rfl) ?_
        with_reducible refine q_load 24 (.tmp 9) (.pointer (some ⟨g9, 0, none⟩)) (.agg (pw x)) rfl (by kernel_rfl) (by kernel_rfl) (fun _ c => ld_pw (c.c.is _ _ (by simp))) ?_
        with_reducible refine q_val (.agg #[.int .u64 0, .int .u64 0, .int .u64 0, .int .u64 0]) (by kernel_rfl) (fun _ _ => by kernel_rfl) ?_
        with_reducible refine q_bin .neq 24 _ _ 24 (.agg (pw x)) (.agg #[.int .u64 0, .int .u64 0, .int .u64 0, .int .u64 0]) (.bool true) rfl (by kernel_rfl) (by kernel_rfl) (by kernel_rfl) (fun _ => by kernel_rfl) (fun w' => HXZ.out w') ?_
        with_reducible refine q_bin .neq 4 _ _ 4 (.bool true) (.bool true) (.bool false) rfl (by kernel_rfl) (by kernel_rfl) (by kernel_rfl) (fun _ => by kernel_rfl) (fun w' => by kernel_rfl) ?_
        with_reducible refine q_val (.bool false) (by kernel_rfl) (fun _ _ => by kernel_rfl) ?_
        with_reducible refine q_val (.bool true) (by kernel_rfl) (fun _ _ => by kernel_rfl) ?_
        with_reducible refine q_val (.bool true) (by kernel_rfl) (fun _ _ => by kernel_rfl) ?_
        with_reducible refine q_val (.slice (some ⟨l, 0, none⟩) 3 3) (by kernel_rfl) (fun _ _ => by kernel_rfl) ?_
        with_reducible refine q_val (.int .i64 k) (by kernel_rfl) (fun _ _ => by kernel_rfl) ?_
        with_reducible refine q_sem2 (Instr.indexAt 38 (.slice (some ⟨l, 0, none⟩) 3 3) (.int .i64 k)) (.pointer (some ⟨l, k, none⟩)) (by kernel_rfl) (by kernel_rfl) (fun w' _ => HIX.out w') ?_
        with_reducible refine q_load 25 (.tmp 77) (.pointer (some ⟨l, k, none⟩)) (.pointer (some ⟨F, 0, none⟩)) rfl (by kernel_rfl) (by kernel_rfl) (fun w' c => HLF.out w' c.c.fds) ?_
        with_reducible refine q_load 24 (.tmp 10) (.pointer (some ⟨D10, 0, none⟩)) (.agg (pw iv)) rfl (by kernel_rfl) (by kernel_rfl) (fun _ c => ld_pw (c.c.is _ _ (by simp))) ?_
        with_reducible refine q_load 24 (.tmp 2) (.pointer (some ⟨w.heap.size, 0, none⟩)) (.agg (pw a)) rfl (by kernel_rfl) (by kernel_rfl) (fun _ c => ld_pw (c.c.is _ _ (by simp))) ?_
        with_reducible refine q_call 15 #[.pointer (some ⟨F, 0, none⟩), .agg (pw iv), .agg (pw a)] (.agg (pw 1)) (by kernel_rfl) (fun _ => by kernel_rfl) (CF4.fld HAT.out HM1.out) ?_
        with_reducible refine q_val (.agg (pw 1)) (by kernel_rfl) (fun _ _ => by kernel_rfl) ?_
        with_reducible refine q_bin .neq 24 _ _ 24 (.agg (pw 1)) (.agg (pw 1)) (.bool false) rfl (by kernel_rfl) (by kernel_rfl) (by kernel_rfl) (fun _ => by kernel_rfl) (fun w' => HN1.out w') ?_
        with_reducible refine q_val (.bool false) (by kernel_rfl) (fun _ _ => by kernel_rfl) ?_
        with_reducible refine q_val (.bool false) (by kernel_rfl) (fun _ _ => by kernel_rfl) ?_
        with_reducible refine wpQuiet_nil ?_
        intro wx hC
        have HD := Lib.hid hC
        clear hC H9
        simp only [Act.put, List.setIfInBounds_toArray, List.set_cons_succ, List.set_cons_zero]
        go_wp2_with fail
        go_roundw
        case rel => exact ⟨k + 1, by have := HK.out.1; omega, by go_num, Lib.hid ⟨HD.out.c.less _ (fun p hp => List.mem_cons_of_mem _ (List.mem_cons_of_mem _ hp)), HD.out.rM⟩⟩
        case measure => have := HK.out.1; simp [intOf]; omega
      | false =>
        clear HMI
        refine wp_region_quiet (C := CF4 w l f g h M G m ((D10, pw iv) :: (g9, pw x) :: [(w.heap.size + 1, pw b), (w.heap.size, pw a)])) (by kernel_rfl) (by kernel_rfl) (H9.out.drew) ?_
        simp only
        with_reducible refine q_val (.bool false) (by kernel_rfl) (fun _ _ => by kernel_rfl) ?_
        with_reducible refine q_load 24 (.tmp 9) (.pointer (some ⟨g9, 0, none⟩)) (.agg (pw x)) rfl (by kernel_rfl) (by kernel_rfl) (fun _ c => ld_pw (c.c.is _ _ (by simp))) ?_
        with_reducible refine q_val (.agg #[.int .u64 0, .int .u64 0, .int .u64 0, .int .u64 0]) (by kernel_rfl) (fun _ _ => by kernel_rfl) ?_
        with_reducible refine q_bin .neq 24 _ _ 24 (.agg (pw x)) (.agg #[.int .u64 0, .int .u64 0, .int .u64 0, .int .u64 0]) (.bool false) rfl (by kernel_rfl) (by kernel_rfl) (by kernel_rfl) (fun _ => by kernel_rfl) (fun w' => HXZ.out w') ?_
        with_reducible refine q_bin .neq 4 _ _ 4 (.bool false) (.bool false) (.bool false) rfl (by kernel_rfl) (by kernel_rfl) (by kernel_rfl) (fun _ => by kernel_rfl) (fun w' => by kernel_rfl) ?_
        with_reducible refine q_val (.bool false) (by kernel_rfl) (fun _ _ => by kernel_rfl) ?_
        with_reducible refine q_val (.bool false) (by kernel_rfl) (fun _ _ => by kernel_rfl) ?_
        with_reducible refine q_val (.bool false) (by kernel_rfl) (fun _ _ => by kernel_rfl) ?_
        with_reducible refine q_skip (by kernel_rfl) ?_
        with_reducible refine q_skip (by kernel_rfl) ?_
        with_reducible refine q_skip (by kernel_rfl) ?_
        with_reducible refine q_skip (by kernel_rfl) ?_
        with_reducible refine q_skip (by kernel_rfl) ?_
        with_reducible refine q_skip (by kernel_rfl) ?_
        with_reducible refine q_skip (by kernel_rfl) ?_
        with_reducible refine q_skip (by kernel_rfl) ?_
        with_reducible refine q_skip (by kernel_rfl) ?_
        with_reducible refine q_val (.bool false) (by kernel_rfl) (fun _ _ => by kernel_rfl) ?_
        with_reducible refine q_val (.bool false) (by kernel_rfl) (fun _ _ => by kernel_rfl) ?_
        with_reducible refine wpQuiet_nil ?_
        intro wx hC
        have HD := Lib.hid hC
        clear hC H9
        simp only [Act.put, List.setIfInBounds_toArray, List.set_cons_succ, List.set_cons_zero]
        go_wp2_with fail
        go_roundw
        case rel => exact ⟨k + 1, by have := HK.out.1; omega, by go_num, Lib.hid ⟨HD.out.c.less _ (fun p hp => List.mem_cons_of_mem _ (List.mem_cons_of_mem _ hp)), HD.out.rM⟩⟩
        case measure => have := HK.out.1; simp [intOf]; omega
    · have hlt' : ¬ (k : Int) < 3 := by omega
      clear hk hlt
      go_wp2_with fail
      refine (flives_any _).mono ?_
      rintro e w9 ⟨rfl, hb9⟩
      have H9 := Lib.hid (H.out.c.old.trans (hb9.mono H.out.c.old.size))
      clear hb9
      go_wp2_with fail
      go_ret
      exact ⟨rfl, H9.out⟩
end Go.Proofs.Ytfgefifplmhopaa
namespace Go.Proofs.Ytfgefifplmhopaa.fieldCurves
open Go.ChangeShapes Go.WideShapes Go.ChangeAt Go.RowKit

set_option maxRecDepth 100000 in
theorem contract (H : Type) (enc : TypeId × Value → H) (W : World) (base : Nat) (args : Array Value) (ds gs : List (DataW H)) (before : List MemPlace)
    (hval : ∀ (j : Nat) t v, Try.f4.params[j]? = some t → args[j]? = some v → Value.okWide Try.prog W .any base t v)
    (hW : DataW.Whole enc Try.prog Try.f4.params.toList Rows.fieldCurvesSpec.vars false W args.toList ds gs before) :
    Calls Try.prog 4 args W fun e W' => ∃ v, e = .returned v ∧ Rows.fieldCurvesSpec.post enc Try.prog Try.f4 false true false false W args v W' := by
  have hW' := hW
  obtain ⟨p, q, hA0, hV, rfl, hfz, hnd⟩ := hW
  have hA : DataW.TrodAll enc Try.prog W 0 (fun _ => true) true Try.f4.params.toList args.toList ds p := hA0
  rw [Try.params4] at hA hval
  obtain ⟨v0, vs0, d0, ds0, p0, q0, hargs, rfl, rfl, h0, r0⟩ := trodAll_cons hA
  obtain ⟨v1, vs1, d1, ds1, p1, q1, rfl, rfl, rfl, h1, r1⟩ := trodAll_cons r0
  obtain ⟨rfl, rfl, rfl⟩ := trodAll_nil r1
  obtain rfl : args = #[v0, v1] := by cases args; simp_all
  obtain ⟨rfl, rfl⟩ := trodVars_none hV
  obtain ⟨x0, rfl, X0⟩ := open_pw (hval 0 24 v0 rfl rfl) h0
  obtain ⟨x1, rfl, X1⟩ := open_pw (hval 1 24 v1 rfl rfl) h1
  clear hA0
  refine (fcurves_any x0 x1 X0 X1 W).mono fun e W' ⟨he, hb⟩ => ?_
  subst he
  refine ⟨_, rfl, _, _, _, [], p0 ++ (p1 ++ []), [], hW', trodAll_cons_mk (shut_bool Try.underlying4 _) trodAll_mk0, trodAll_cons_mk (Below.trod laidOutF (by kernel_rfl) (of_decide_eq_true (by kernel_rfl)) h0 hb (fun x hx => hW'.lt x (by simp [hx]))) (trodAll_cons_mk (Below.trod laidOutF (by kernel_rfl) (of_decide_eq_true (by kernel_rfl)) h1 hb (fun x hx => hW'.lt x (by simp [hx]))) trodAll_mk0), rfl, hb.frame _, fun h => by cases h⟩

theorem laid_met (os : Os) : laidMet Try.prog Rows.fieldCurvesRow.laid ((bareWorld os).forCall (fun _ _ => 0) ⟨#[], #[.agg #[.int .u64 0, .int .u64 0, .int .u64 0, .int .u64 0], .agg #[.int .u64 0, .int .u64 0, .int .u64 0, .int .u64 0]], []⟩).memory :=
  laidMet_of_run' 80 (by kernel_rfl) (by kernel_rfl)
theorem reads (os : Os) {H : Type} (enc : TypeId × Value → H) : ∃ places, DataW.whole enc Try.prog ((bareWorld os).forCall (fun _ _ => 0) ⟨#[], #[.agg #[.int .u64 0, .int .u64 0, .int .u64 0, .int .u64 0], .agg #[.int .u64 0, .int .u64 0, .int .u64 0, .int .u64 0]], []⟩).memory Try.f4.params.toList Rows.fieldCurvesSpec.vars false (#[.agg #[.int .u64 0, .int .u64 0, .int .u64 0, .int .u64 0], .agg #[.int .u64 0, .int .u64 0, .int .u64 0, .int .u64 0]] : Array Value).toList 80 = some ([.agg [.lit (.int .u64 0), .lit (.int .u64 0), .lit (.int .u64 0), .lit (.int .u64 0)], .agg [.lit (.int .u64 0), .lit (.int .u64 0), .lit (.int .u64 0), .lit (.int .u64 0)]], [], places) :=
  ⟨[], by kernel_rfl⟩

set_option maxRecDepth 100000 in
theorem lifted (os : Os) (started : os.Started) (H : Type) (enc : TypeId × Value → H) (F : Stop.Interp) :
    ReturnsInHanded {} Try.checked os 4 .any ((OpenSpec.ofChange Rows.fieldCurvesSpec).preRow enc Try.prog Try.f4 Rows.fieldCurvesRow.domain false Rows.fieldCurvesRow.laid) (((OpenSpec.ofChange Rows.fieldCurvesSpec).at F).post enc Try.prog Try.f4 false true false false) := by
  obtain ⟨places, hx⟩ := reads os enc
  refine returnsInHanded_of_row (C := Try.checked) (s := OpenSpec.ofChange Rows.fieldCurvesSpec) ownF started (by kernel_rfl) Try.func4
    (witness_row_at (enc := enc) (C := Try.checked) false (bareWorld os) #[.agg #[.int .u64 0, .int .u64 0, .int .u64 0, .int .u64 0], .agg #[.int .u64 0, .int .u64 0, .int .u64 0, .int .u64 0]] rfl (by kernel_rfl) (by kernel_rfl) (by kernel_rfl)
      (OpenSpec.preRow_of_cond 80 hx (by kernel_rfl) (fun k hk => by cases hk) (by kernel_rfl) (laid_met os))) ?_
  intro W base args ds gs before hval hW _ _ _ _ _ _
  exact contract H enc W base args ds gs before hval hW

theorem said : Rows.FieldCurvesSaid :=
  OpenClaim.holds_of_cond 4 Try.f4 rfl rfl rfl rfl rfl rfl rfl ⟨rfl, rfl, rfl, rfl, rfl⟩ rfl rfl rfl rfl rfl (by kernel_rfl) Try.func4 (by kernel_rfl)
    (of_decide_eq_true (by kernel_rfl)) (by unfold Func.isWrapper; rw [if_neg (of_decide_eq_false (by kernel_rfl))]; exact ⟨rfl, rfl⟩)
    (fun os started H enc _ F => by rw [OpenClaim.pre_eq_preRow]; exact lifted os started H enc F)
end Go.Proofs.Ytfgefifplmhopaa.fieldCurves

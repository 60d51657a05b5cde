/- bailiwicklaw07.FieldRoots: the statement about it: whatever the input: true; the input reads as it did. CONDITIONS: none. (With it, merged: FRoots · FieldRoots.) -/
import Derived.Test.YtfgefifplmhopaaM8
import Derived.Test.YtfgefifplmhopaaM7
namespace Go.Proofs.Ytfgefifplmhopaa
open Go.RowKit
theorem CF.cons {w wx : World} {l f g h d : Nat} {L : List (Nat × Array Value)} {cs : Array Value} (c : CF w l f g h L wx) (hr : wx.heap[d]? = some (.cells cs 24 (0, 0))) : CF w l f g h ((d, cs) :: L) wx := by
  refine ⟨c.old, c.fds, fun p hp => ?_⟩
  rcases List.mem_cons.1 hp with rfl | hp
  · exact hr
  · exact c.rows p hp
theorem load_fp (g j : Nat) (p : Option Addr) (w : World) (h : w.cell? ⟨g, j, none⟩ = some (.pointer p)) : (Instr.loadAt 25 (.pointer (some ⟨g, j, none⟩))).run Try.prog w = .ok (.pointer p) w := by
  go_simp
theorem arr_lit5 (t : Array Value) : t = ((List.range t.size).map fun i => t.getD i undef).toArray := by
  apply Array.ext
  · simp
  · intro i h1 h2
    simp [h1]
/-- Of the two that have the rest 3. -/
theorem Fds.rest {l f g h : Nat} (k : Nat) (hk : k < 3) (he : k % 2 = 0) : ∃ F m, Pr m ∧ m % 4 = 3 ∧ ∀ w, Fds w l f g h → w.cell? ⟨l, k, none⟩ = some (.pointer (some ⟨F, 0, none⟩)) ∧ FldAt w F m := by
  have : k = 0 ∨ k = 2 := by omega
  rcases this with rfl | rfl
  · exact ⟨f, _, prm_115792089237316195423570985008687907853269984665640564039457584007908834671663, by decide +kernel, fun w c => ⟨(cell_of_row w l 0 _ _ _ c.row).trans rfl, c.c⟩⟩
  · exact ⟨h, _, prm_21888242871839275222246405745257275088696311157297823662689037894645226208583, by decide +kernel, fun w c => ⟨(cell_of_row w l 2 _ _ _ c.row).trans rfl, c.b⟩⟩
set_option maxRecDepth 100000 in
set_option maxHeartbeats 4000000 in
theorem froots_any (a : Nat) (ha : a < 115792089237316195423570985008687907853269984665640564039457584007913129639936) (w : World) : Calls Try.prog 5 #[.agg (pw a)] w fun e w' => e = .returned (.bool true) ∧ Below w.heap.size w w' := by
  have HA0 := Lib.hid ha
  clear ha
  go_enter Try.func5, Try.ntmps5
  go_wp2_with fail
  refine (fields_any _).mono ?_
  rintro e w1 ⟨l, f, g, h, rfl, hfd, hb1⟩
  have H1 := Lib.hid (show CF w l f g h [(w.heap.size, pw a)] w1 from by
    have hb0 : Below w.heap.size w (w.alloc (.cells (pw a) 24)) := (Below.refl _ _).alloc (Nat.le_refl _) _
    have hs : (w.alloc (.cells (pw a) 24)).heap.size = w.heap.size + 1 := by simp
    refine ⟨hb0.trans (hb1.mono (by omega)), hfd, fun p hp => ?_⟩
    simp only [List.mem_cons, List.not_mem_nil, or_false] at hp
    subst hp
    exact (hb1.block _ (by show w.heap.size < _; omega)).trans (heap_alloc_new _ _))
  clear hfd hb1
  go_wp2_with fail
  go_loopw [4] (fun iv wr => ∃ k : Nat, k ≤ 4 ∧ k % 2 = 0 ∧ iv = .int .i64 k ∧ Hid (CF w l f g h [(w.heap.size, pw a)] wr)) (fun iv _ => 4 - (intOf iv).toNat)
  case atStart => exact ⟨0, by omega, by omega, rfl, H1⟩
  case round =>

    obtain ⟨k, hk, hev, rfl, H⟩ := hrel
    clear H1
    have hk0 : (0 : Int) ≤ k := by omega
    by_cases hlt : k < 3
    · have hlt' : (k : Int) < 3 := by omega
      obtain ⟨F, m, hp, h3, hat⟩ := Fds.rest (l := l) (f := f) (g := g) (h := h) k hlt hev
      have HIX := Lib.hid (show ∀ wx, (Instr.indexAt 38 (.slice (some ⟨l, 0, none⟩) 3 3) (.int .i64 k)).run Try.prog wx = .ok (.pointer (some ⟨l, k, none⟩)) wx from fun wx => by go_simp)
      have HLF := Lib.hid (fun wx (c : Fds wx l f g h) => load_fp l k _ wx (hat wx c).1)
      have HAT := Lib.hid (fun wx (c : Fds wx l f g h) => (hat wx c).2)
      have hml : m < 115792089237316195423570985008687907853269984665640564039457584007913129639936 := (HAT.out _ H.out.fds).lt
      have hm1 : 1 < m := (HAT.out _ H.out.fds).big
      have HON := Lib.hid (fun hn => roots_one (n := a) hp h3 hn)
      have HA := Lib.hid (fun wx (hf : FldAt wx F m) => fsqrt_yes F m a h3 HA0.out wx hf)
      have HN := Lib.hid (fun wx (hf : FldAt wx F m) => fneg_any F m a HA0.out wx hf)
      have HO := Lib.hid (fun wx (hf : FldAt wx F m) => fof_any F m a HA0.out wx hf)
      obtain ⟨q, hq⟩ : ∃ q, (0 % m + (m - a % m)) % m = q := ⟨_, rfl⟩
      have hqm : q < m := by rw [← hq]; exact Nat.mod_lt _ (by omega)
      rw [hq] at HN HON
      have HB := Lib.hid (fun wx (hf : FldAt wx F m) => fsqrt_yes F m q h3 (Nat.lt_trans hqm hml) wx hf)
      obtain ⟨ea, hea⟩ : ∃ ea, a ^ (m / 2 ^ 2 + 1) % m = ea := ⟨_, rfl⟩
      obtain ⟨eb, heb⟩ : ∃ eb, q ^ (m / 2 ^ 2 + 1) % m = eb := ⟨_, rfl⟩
      have hal : ea < m := by rw [← hea]; exact Nat.mod_lt _ (by omega)
      have hbl : eb < m := by rw [← heb]; exact Nat.mod_lt _ (by omega)
      rw [hea] at HA HON
      rw [heb] at HB HON
      rw [Nat.mod_eq_of_lt hqm] at HB HON
      obtain ⟨r, hr⟩ : ∃ r, a % m = r := ⟨_, rfl⟩
      have hrm : r < m := by rw [← hr]; exact Nat.mod_lt _ (by omega)
      rw [hr] at HA HON HO
      obtain ⟨pa, hpa⟩ : ∃ pa, decide (ea * ea % m = r) = pa := ⟨_, rfl⟩
      obtain ⟨pb, hpb⟩ : ∃ pb, decide (eb * eb % m = q) = pb := ⟨_, rfl⟩
      obtain ⟨x, hx⟩ : ∃ x, (if ea * ea % m = r then ea else 0) = x := ⟨_, rfl⟩
      obtain ⟨y, hy⟩ : ∃ y, (if eb * eb % m = q then eb else 0) = y := ⟨_, rfl⟩
      have hxm : x < m := by rw [← hx]; split <;> omega
      have hym : y < m := by rw [← hy]; split <;> omega
      have HXX := Lib.hid (show pa = true → x * x % m = r from fun e => by
        have h1 := of_decide_eq_true (hpa.trans e)
        rw [if_pos h1] at hx
        rw [← hx]; exact h1)
      have HYY := Lib.hid (show pb = true → y * y % m = q from fun e => by
        have h1 := of_decide_eq_true (hpb.trans e)
        rw [if_pos h1] at hy
        rw [← hy]; exact h1)
      rw [hx, hpa] at HA
      rw [hy, hpb] at HB
      rw [hpa, hpb] at HON
      have HM1 := Lib.hid (fun wx (hf : FldAt wx F m) => fmul_any F m x x (Nat.lt_trans hxm hml) (Nat.lt_trans hxm hml) wx hf)
      have HM2 := Lib.hid (fun wx (hf : FldAt wx F m) => fmul_any F m y y (Nat.lt_trans hym hml) (Nat.lt_trans hym hml) wx hf)
      have HN1 := Lib.hid (show ∀ wx, (binOp BinOp.neq 24 (.agg (pw r)) (.agg (pw r))).run Try.prog wx = .ok (.bool false) wx from fun wx => by simpa using new_run r r (Nat.lt_trans hrm hml) (Nat.lt_trans hrm hml) wx)
      have HN2 := Lib.hid (show ∀ wx, (binOp BinOp.neq 24 (.agg (pw q)) (.agg (pw q))).run Try.prog wx = .ok (.bool false) wx from fun wx => by simpa using new_run q q (Nat.lt_trans hqm hml) (Nat.lt_trans hqm hml) wx)
      have HN3 := Lib.hid (show ∀ wx, (binOp BinOp.neq 24 (.agg (pw 0)) (.agg #[.int .u64 0, .int .u64 0, .int .u64 0, .int .u64 0])).run Try.prog wx = .ok (.bool false) wx from fun wx => by rw [show (#[.int .u64 0, .int .u64 0, .int .u64 0, .int .u64 0] : Array Value) = pw 0 from by kernel_rfl]; simpa using new_run 0 0 (by omega) (by omega) wx)
      have HK := Lib.hid (And.intro hlt hev)
      have HKI := Lib.hid (And.intro hk0 hlt')
      clear hp h3 hat hml hm1 hq hqm hea heb hal hbl hr hrm hpa hpb hx hy hxm hym hlt hev hk hlt' hk0
      have hk0 := HKI.out.1
      have hlt' := HKI.out.2
      go_wp2_with fail
      refine region_many [.val 18 ((.slice (some ⟨l, 0, none⟩) 3 3)), .val 19 ((.int .i64 k)), .val 20 ((.pointer (some ⟨l, k, none⟩))), .val 21 ((.pointer (some ⟨F, 0, none⟩))), .val 22 ((.agg (pw a))), .val 23 ((.tuple #[.agg (pw x), .bool pa])), .val 17 ((.tuple #[.agg (pw x), .bool pa])), .val 24 ((.agg (pw x))), .val 25 ((.bool pa)), .blk 5 24, .laid 5 24, .val 6 ((.bool pa))] [5] (fun p => pw x) (fun i => i) (by kernel_rfl) (by kernel_rfl) ⟨trivial, trivial, trivial, trivial, trivial, trivial, trivial, trivial, trivial, (by simp [Sp.ok]), (by simp [Sp.ok]), trivial, trivial⟩ (by intro p hp q hq hne; simp only [List.mem_cons, List.not_mem_nil, or_false] at hp hq; first | exact absurd (hp.trans hq.symm) hne | cases hp) ?_ ?_
      · refine ⟨?_, ?_, ?_, ?_, ?_, ?_, ?_, ?_, ?_, ?_, ?_, ?_, trivial⟩
        · intro ac wx hC hsz hK
          have h0 : ac.tmps.getD 3 undef = (.slice (some ⟨l, 0, none⟩) 3 3) := hK.1 3 (by kernel_rfl)
          exact mm_val ((.slice (some ⟨l, 0, none⟩) 3 3)) rfl (by kernel_rfl) (by rw [← h0]; kernel_rfl) hC (by kernel_rfl) (by rw [hsz]; exact of_decide_eq_true (by kernel_rfl)) rfl
        · intro ac wx hC hsz hK
          have h0 : ac.tmps.getD 4 undef = (.int .i64 k) := hK.1 4 (by kernel_rfl)
          exact mm_val ((.int .i64 k)) rfl (by kernel_rfl) (by rw [← h0]; kernel_rfl) hC (by kernel_rfl) (by rw [hsz]; exact of_decide_eq_true (by kernel_rfl)) rfl
        · intro ac wx hC hsz hK
          have h0 : ac.tmps.getD 18 undef = (.slice (some ⟨l, 0, none⟩) 3 3) := hK.2 ⟨0, .data⟩ (by simp) rfl _ rfl
          have h1 : ac.tmps.getD 19 undef = (.int .i64 k) := hK.2 ⟨1, .data⟩ (by simp) rfl _ rfl
          refine mm_sem (Instr.indexAt 38 (ac.tmps.getD 18 undef) (ac.tmps.getD 19 undef)) ((.pointer (some ⟨l, k, none⟩))) rfl (by kernel_rfl) (by kernel_rfl) ?_ hC (by kernel_rfl) (by rw [hsz]; exact of_decide_eq_true (by kernel_rfl)) rfl
          rw [h0, h1]
          exact HIX.out wx
        · intro ac wx hC hsz hK
          have h0 : ac.tmps.getD 20 undef = (.pointer (some ⟨l, k, none⟩)) := hK.2 ⟨2, .data⟩ (by simp) rfl _ rfl
          exact mm_load 25 (.tmp 20) ((.pointer (some ⟨l, k, none⟩))) ((.pointer (some ⟨F, 0, none⟩))) rfl rfl (by kernel_rfl) h0 (HLF.out wx (H.out.below hC.1).fds) hC (by kernel_rfl) (by rw [hsz]; exact of_decide_eq_true (by kernel_rfl)) rfl
        · intro ac wx hC hsz hK
          have h0 : ac.tmps.getD 1 undef = (.pointer (some ⟨w.heap.size, 0, none⟩)) := hK.1 1 (by kernel_rfl)
          exact mm_load 24 (.tmp 1) ((.pointer (some ⟨w.heap.size, 0, none⟩))) ((.agg (pw a))) rfl rfl (by kernel_rfl) h0 (ld_pw ((H.out.below hC.1).is _ _ (by simp))) hC (by kernel_rfl) (by rw [hsz]; exact of_decide_eq_true (by kernel_rfl)) rfl
        · intro ac wx hC hsz hK
          have h0 : ac.tmps.getD 21 undef = (.pointer (some ⟨F, 0, none⟩)) := hK.2 ⟨3, .data⟩ (by simp) rfl _ rfl
          have h1 : ac.tmps.getD 22 undef = (.agg (pw a)) := hK.2 ⟨4, .data⟩ (by simp) rfl _ rfl
          refine mm_call 28 #[ac.tmps.getD 21 undef, ac.tmps.getD 22 undef] ((.tuple #[.agg (pw x), .bool pa])) rfl (by kernel_rfl) (by kernel_rfl) ?_ hC (by kernel_rfl) (by rw [hsz]; exact of_decide_eq_true (by kernel_rfl)) rfl
          rw [h0, h1]
          exact HA.out wx (HAT.out wx (H.out.below hC.1).fds)
        · intro ac wx hC hsz hK
          have h0 : ac.tmps.getD 23 undef = (.tuple #[.agg (pw x), .bool pa]) := hK.2 ⟨5, .data⟩ (by simp) rfl _ rfl
          exact mm_val ((.tuple #[.agg (pw x), .bool pa])) rfl (by kernel_rfl) (by rw [← h0]; kernel_rfl) hC (by kernel_rfl) (by rw [hsz]; exact of_decide_eq_true (by kernel_rfl)) rfl
        · intro ac wx hC hsz hK
          have h0 : ac.tmps.getD 17 undef = (.tuple #[.agg (pw x), .bool pa]) := hK.2 ⟨6, .data⟩ (by simp) rfl _ rfl
          refine mm_sem (Instr.extract (ac.tmps.getD 17 undef) 0) ((.agg (pw x))) rfl (by kernel_rfl) (by kernel_rfl) ?_ hC (by kernel_rfl) (by rw [hsz]; exact of_decide_eq_true (by kernel_rfl)) rfl
          rw [h0]
          exact (by kernel_rfl)
        · intro ac wx hC hsz hK
          have h0 : ac.tmps.getD 17 undef = (.tuple #[.agg (pw x), .bool pa]) := hK.2 ⟨6, .data⟩ (by simp) rfl _ rfl
          refine mm_sem (Instr.extract (ac.tmps.getD 17 undef) 1) ((.bool pa)) rfl (by kernel_rfl) (by kernel_rfl) ?_ hC (by kernel_rfl) (by rw [hsz]; exact of_decide_eq_true (by kernel_rfl)) rfl
          rw [h0]
          exact (by kernel_rfl)
        · intro ac wx hC hsz hK
          exact mm_new 24 (#[.int .u64 0, .int .u64 0, .int .u64 0, .int .u64 0]) rfl (by kernel_rfl) (by kernel_rfl) hC (by rw [pw_size]; rfl) (by rw [hsz]; exact of_decide_eq_true (by kernel_rfl)) rfl
        · intro ac wx hC hsz hK
          have h0 : ac.tmps.getD 24 undef = (.agg (pw x)) := hK.2 ⟨7, .data⟩ (by simp) rfl _ rfl
          exact mm_store (p := 5) 24 (.tmp 5) (.tmp 24) _ rfl rfl (by kernel_rfl) rfl h0 (by simp) (hK.2 ⟨9, .data⟩ (by simp) rfl _ rfl) (fun D cs h3 h4 => store_w (h4.trans (pw_size _)) h3) hC rfl
        · intro ac wx hC hsz hK
          have h0 : ac.tmps.getD 25 undef = (.bool pa) := hK.2 ⟨8, .data⟩ (by simp) rfl _ rfl
          exact mm_val ((.bool pa)) rfl (by kernel_rfl) (by rw [← h0]; kernel_rfl) hC (by kernel_rfl) (by rw [hsz]; exact of_decide_eq_true (by kernel_rfl)) rfl
      intro f1 w5 hb5 hap hf5
      obtain ⟨D5, s5, -, r5⟩ := hf5 10 _ rfl
      have s6 := hf5 11 _ rfl
      have H5 := Lib.hid ((H.out.below hb5).cons r5)
      clear hf5 hap hb5 H HA r5
      generalize hAct : putAll _ _ _ = G at *
      have s1 : G.tmps.getD 1 undef = .pointer (some ⟨w.heap.size, 0, none⟩) := by subst hAct; kernel_rfl
      have s0 : G.tmps.getD 0 undef = .agg (pw a) := by subst hAct; kernel_rfl
      have s9 : G.tmps.getD 9 undef = (.slice (some ⟨l, 0, none⟩) 3 3) := by subst hAct; kernel_rfl
      have s10 : G.tmps.getD 10 undef = (.slice (some ⟨l, 0, none⟩) 3 3) := by subst hAct; kernel_rfl
      have s11 : G.tmps.getD 11 undef = .int .i64 3 := by subst hAct; kernel_rfl
      have s12 : G.tmps.getD 12 undef = .bool false := by subst hAct; kernel_rfl
      have s89 : G.tmps.getD 89 undef = undef := by subst hAct; kernel_rfl
      have s3 : G.tmps.getD 3 undef = (.slice (some ⟨l, 0, none⟩) 3 3) := by subst hAct; kernel_rfl
      have s4 : G.tmps.getD 4 undef = .int .i64 k := by subst hAct; kernel_rfl
      have s5' : G.tmps.getD 5 undef = .pointer (some ⟨D5, 0, none⟩) := s5
      have s6' : G.tmps.getD 6 undef = .bool pa := s6
      have hsz : G.tmps.size = 90 := by rw [← hAct, putAll_size]; rfl
      have hdf : G.defers = [] := by subst hAct; kernel_rfl
      clear hAct s5 s6 f1
      obtain ⟨u2, t2⟩ : ∃ u, G.tmps.getD 2 undef = u := ⟨_, rfl⟩
      obtain ⟨u7, t7⟩ : ∃ u, G.tmps.getD 7 undef = u := ⟨_, rfl⟩
      obtain ⟨u8, t8⟩ : ∃ u, G.tmps.getD 8 undef = u := ⟨_, rfl⟩
      obtain ⟨u13, t13⟩ : ∃ u, G.tmps.getD 13 undef = u := ⟨_, rfl⟩
      obtain ⟨u14, t14⟩ : ∃ u, G.tmps.getD 14 undef = u := ⟨_, rfl⟩
      obtain ⟨u15, t15⟩ : ∃ u, G.tmps.getD 15 undef = u := ⟨_, rfl⟩
      obtain ⟨u16, t16⟩ : ∃ u, G.tmps.getD 16 undef = u := ⟨_, rfl⟩
      obtain ⟨u17, t17⟩ : ∃ u, G.tmps.getD 17 undef = u := ⟨_, rfl⟩
      obtain ⟨u18, t18⟩ : ∃ u, G.tmps.getD 18 undef = u := ⟨_, rfl⟩
      obtain ⟨u19, t19⟩ : ∃ u, G.tmps.getD 19 undef = u := ⟨_, rfl⟩
      obtain ⟨u20, t20⟩ : ∃ u, G.tmps.getD 20 undef = u := ⟨_, rfl⟩
      obtain ⟨u21, t21⟩ : ∃ u, G.tmps.getD 21 undef = u := ⟨_, rfl⟩
      obtain ⟨u22, t22⟩ : ∃ u, G.tmps.getD 22 undef = u := ⟨_, rfl⟩
      obtain ⟨u23, t23⟩ : ∃ u, G.tmps.getD 23 undef = u := ⟨_, rfl⟩
      obtain ⟨u24, t24⟩ : ∃ u, G.tmps.getD 24 undef = u := ⟨_, rfl⟩
      obtain ⟨u25, t25⟩ : ∃ u, G.tmps.getD 25 undef = u := ⟨_, rfl⟩
      obtain ⟨u26, t26⟩ : ∃ u, G.tmps.getD 26 undef = u := ⟨_, rfl⟩
      obtain ⟨u27, t27⟩ : ∃ u, G.tmps.getD 27 undef = u := ⟨_, rfl⟩
      obtain ⟨u28, t28⟩ : ∃ u, G.tmps.getD 28 undef = u := ⟨_, rfl⟩
      obtain ⟨u29, t29⟩ : ∃ u, G.tmps.getD 29 undef = u := ⟨_, rfl⟩
      obtain ⟨u30, t30⟩ : ∃ u, G.tmps.getD 30 undef = u := ⟨_, rfl⟩
      obtain ⟨u31, t31⟩ : ∃ u, G.tmps.getD 31 undef = u := ⟨_, rfl⟩
      obtain ⟨u32, t32⟩ : ∃ u, G.tmps.getD 32 undef = u := ⟨_, rfl⟩
      obtain ⟨u33, t33⟩ : ∃ u, G.tmps.getD 33 undef = u := ⟨_, rfl⟩
      obtain ⟨u34, t34⟩ : ∃ u, G.tmps.getD 34 undef = u := ⟨_, rfl⟩
      obtain ⟨u35, t35⟩ : ∃ u, G.tmps.getD 35 undef = u := ⟨_, rfl⟩
      obtain ⟨u36, t36⟩ : ∃ u, G.tmps.getD 36 undef = u := ⟨_, rfl⟩
      obtain ⟨u37, t37⟩ : ∃ u, G.tmps.getD 37 undef = u := ⟨_, rfl⟩
      obtain ⟨u38, t38⟩ : ∃ u, G.tmps.getD 38 undef = u := ⟨_, rfl⟩
      obtain ⟨u39, t39⟩ : ∃ u, G.tmps.getD 39 undef = u := ⟨_, rfl⟩
      obtain ⟨u40, t40⟩ : ∃ u, G.tmps.getD 40 undef = u := ⟨_, rfl⟩
      obtain ⟨u41, t41⟩ : ∃ u, G.tmps.getD 41 undef = u := ⟨_, rfl⟩
      obtain ⟨u42, t42⟩ : ∃ u, G.tmps.getD 42 undef = u := ⟨_, rfl⟩
      obtain ⟨u43, t43⟩ : ∃ u, G.tmps.getD 43 undef = u := ⟨_, rfl⟩
      obtain ⟨u44, t44⟩ : ∃ u, G.tmps.getD 44 undef = u := ⟨_, rfl⟩
      obtain ⟨u45, t45⟩ : ∃ u, G.tmps.getD 45 undef = u := ⟨_, rfl⟩
      obtain ⟨u46, t46⟩ : ∃ u, G.tmps.getD 46 undef = u := ⟨_, rfl⟩
      obtain ⟨u47, t47⟩ : ∃ u, G.tmps.getD 47 undef = u := ⟨_, rfl⟩
      obtain ⟨u48, t48⟩ : ∃ u, G.tmps.getD 48 undef = u := ⟨_, rfl⟩
      obtain ⟨u49, t49⟩ : ∃ u, G.tmps.getD 49 undef = u := ⟨_, rfl⟩
      obtain ⟨u50, t50⟩ : ∃ u, G.tmps.getD 50 undef = u := ⟨_, rfl⟩
      obtain ⟨u51, t51⟩ : ∃ u, G.tmps.getD 51 undef = u := ⟨_, rfl⟩
      obtain ⟨u52, t52⟩ : ∃ u, G.tmps.getD 52 undef = u := ⟨_, rfl⟩
      obtain ⟨u53, t53⟩ : ∃ u, G.tmps.getD 53 undef = u := ⟨_, rfl⟩
      obtain ⟨u54, t54⟩ : ∃ u, G.tmps.getD 54 undef = u := ⟨_, rfl⟩
      obtain ⟨u55, t55⟩ : ∃ u, G.tmps.getD 55 undef = u := ⟨_, rfl⟩
      obtain ⟨u56, t56⟩ : ∃ u, G.tmps.getD 56 undef = u := ⟨_, rfl⟩
      obtain ⟨u57, t57⟩ : ∃ u, G.tmps.getD 57 undef = u := ⟨_, rfl⟩
      obtain ⟨u58, t58⟩ : ∃ u, G.tmps.getD 58 undef = u := ⟨_, rfl⟩
      obtain ⟨u59, t59⟩ : ∃ u, G.tmps.getD 59 undef = u := ⟨_, rfl⟩
      obtain ⟨u60, t60⟩ : ∃ u, G.tmps.getD 60 undef = u := ⟨_, rfl⟩
      obtain ⟨u61, t61⟩ : ∃ u, G.tmps.getD 61 undef = u := ⟨_, rfl⟩
      obtain ⟨u62, t62⟩ : ∃ u, G.tmps.getD 62 undef = u := ⟨_, rfl⟩
      obtain ⟨u63, t63⟩ : ∃ u, G.tmps.getD 63 undef = u := ⟨_, rfl⟩
      obtain ⟨u64, t64⟩ : ∃ u, G.tmps.getD 64 undef = u := ⟨_, rfl⟩
      obtain ⟨u65, t65⟩ : ∃ u, G.tmps.getD 65 undef = u := ⟨_, rfl⟩
      obtain ⟨u66, t66⟩ : ∃ u, G.tmps.getD 66 undef = u := ⟨_, rfl⟩
      obtain ⟨u67, t67⟩ : ∃ u, G.tmps.getD 67 undef = u := ⟨_, rfl⟩
      obtain ⟨u68, t68⟩ : ∃ u, G.tmps.getD 68 undef = u := ⟨_, rfl⟩
      obtain ⟨u69, t69⟩ : ∃ u, G.tmps.getD 69 undef = u := ⟨_, rfl⟩
      obtain ⟨u70, t70⟩ : ∃ u, G.tmps.getD 70 undef = u := ⟨_, rfl⟩
      obtain ⟨u71, t71⟩ : ∃ u, G.tmps.getD 71 undef = u := ⟨_, rfl⟩
      obtain ⟨u72, t72⟩ : ∃ u, G.tmps.getD 72 undef = u := ⟨_, rfl⟩
      obtain ⟨u73, t73⟩ : ∃ u, G.tmps.getD 73 undef = u := ⟨_, rfl⟩
      obtain ⟨u74, t74⟩ : ∃ u, G.tmps.getD 74 undef = u := ⟨_, rfl⟩
      obtain ⟨u75, t75⟩ : ∃ u, G.tmps.getD 75 undef = u := ⟨_, rfl⟩
      obtain ⟨u76, t76⟩ : ∃ u, G.tmps.getD 76 undef = u := ⟨_, rfl⟩
      obtain ⟨u77, t77⟩ : ∃ u, G.tmps.getD 77 undef = u := ⟨_, rfl⟩
      obtain ⟨u78, t78⟩ : ∃ u, G.tmps.getD 78 undef = u := ⟨_, rfl⟩
      obtain ⟨u79, t79⟩ : ∃ u, G.tmps.getD 79 undef = u := ⟨_, rfl⟩
      obtain ⟨u80, t80⟩ : ∃ u, G.tmps.getD 80 undef = u := ⟨_, rfl⟩
      obtain ⟨u81, t81⟩ : ∃ u, G.tmps.getD 81 undef = u := ⟨_, rfl⟩
      obtain ⟨u82, t82⟩ : ∃ u, G.tmps.getD 82 undef = u := ⟨_, rfl⟩
      obtain ⟨u83, t83⟩ : ∃ u, G.tmps.getD 83 undef = u := ⟨_, rfl⟩
      obtain ⟨u84, t84⟩ : ∃ u, G.tmps.getD 84 undef = u := ⟨_, rfl⟩
      obtain ⟨u85, t85⟩ : ∃ u, G.tmps.getD 85 undef = u := ⟨_, rfl⟩
      obtain ⟨u86, t86⟩ : ∃ u, G.tmps.getD 86 undef = u := ⟨_, rfl⟩
      obtain ⟨u87, t87⟩ : ∃ u, G.tmps.getD 87 undef = u := ⟨_, rfl⟩
      obtain ⟨u88, t88⟩ : ∃ u, G.tmps.getD 88 undef = u := ⟨_, rfl⟩
      obtain ⟨tm, df⟩ := G
      simp only at *
      have hLt := arr_lit5 tm
      rw [hsz] at hLt
      simp only [List.range, List.range.loop, List.map] at hLt
      rw [s0, s1, t2, s3, s4, s5', s6', t7, t8, s9, s10, s11, s12, t13, t14, t15, t16, t17, t18, t19, t20, t21, t22, t23, t24, t25, t26, t27, t28, t29, t30, t31, t32, t33, t34, t35, t36, t37, t38, t39, t40, t41, t42, t43, t44, t45, t46, t47, t48, t49, t50, t51, t52, t53, t54, t55, t56, t57, t58, t59, t60, t61, t62, t63, t64, t65, t66, t67, t68, t69, t70, t71, t72, t73, t74, t75, t76, t77, t78, t79, t80, t81, t82, t83, t84, t85, t86, t87, t88, s89] at hLt
      subst hLt hdf
      clear s0 s1 t2 s3 s4 s5' s6' t7 t8 s9 s10 s11 s12 t13 t14 t15 t16 t17 t18 t19 t20 t21 t22 t23 t24 t25 t26 t27 t28 t29 t30 t31 t32 t33 t34 t35 t36 t37 t38 t39 t40 t41 t42 t43 t44 t45 t46 t47 t48 t49 t50 t51 t52 t53 t54 t55 t56 t57 t58 t59 t60 t61 t62 t63 t64 t65 t66 t67 t68 t69 t70 t71 t72 t73 t74 t75 t76 t77 t78 t79 t80 t81 t82 t83 t84 t85 t86 t87 t88 s89 hsz
      go_wp2_with fail
      refine region_many [.val 27 ((.slice (some ⟨l, 0, none⟩) 3 3)), .val 28 ((.int .i64 k)), .val 29 ((.pointer (some ⟨l, k, none⟩))), .val 30 ((.pointer (some ⟨F, 0, none⟩))), .val 31 ((.slice (some ⟨l, 0, none⟩) 3 3)), .val 32 ((.int .i64 k)), .val 33 ((.pointer (some ⟨l, k, none⟩))), .val 34 ((.pointer (some ⟨F, 0, none⟩))), .val 35 ((.agg (pw a))), .val 36 ((.agg (pw q))), .val 37 ((.tuple #[.agg (pw y), .bool pb])), .val 26 ((.tuple #[.agg (pw y), .bool pb])), .val 38 ((.agg (pw y))), .val 39 ((.bool pb)), .blk 7 24, .laid 7 24, .val 8 ((.bool pb))] [7] (fun p => pw y) (fun i => i) (by kernel_rfl) (by kernel_rfl) ⟨trivial, trivial, trivial, trivial, trivial, trivial, trivial, trivial, trivial, trivial, trivial, trivial, trivial, trivial, (by simp [Sp.ok]), (by simp [Sp.ok]), trivial, trivial⟩ (by intro p hp q hq hne; simp only [List.mem_cons, List.not_mem_nil, or_false] at hp hq; first | exact absurd (hp.trans hq.symm) hne | cases hp) ?_ ?_
      · refine ⟨?_, ?_, ?_, ?_, ?_, ?_, ?_, ?_, ?_, ?_, ?_, ?_, ?_, ?_, ?_, ?_, ?_, trivial⟩
        · intro ac wx hC hsz hK
          have h0 : ac.tmps.getD 3 undef = (.slice (some ⟨l, 0, none⟩) 3 3) := hK.1 3 (by kernel_rfl)
          exact mm_val ((.slice (some ⟨l, 0, none⟩) 3 3)) rfl (by kernel_rfl) (by rw [← h0]; kernel_rfl) hC (by kernel_rfl) (by rw [hsz]; exact of_decide_eq_true (by kernel_rfl)) rfl
        · intro ac wx hC hsz hK
          have h0 : ac.tmps.getD 4 undef = (.int .i64 k) := hK.1 4 (by kernel_rfl)
          exact mm_val ((.int .i64 k)) rfl (by kernel_rfl) (by rw [← h0]; kernel_rfl) hC (by kernel_rfl) (by rw [hsz]; exact of_decide_eq_true (by kernel_rfl)) rfl
        · intro ac wx hC hsz hK
          have h0 : ac.tmps.getD 27 undef = (.slice (some ⟨l, 0, none⟩) 3 3) := hK.2 ⟨0, .data⟩ (by simp) rfl _ rfl
          have h1 : ac.tmps.getD 28 undef = (.int .i64 k) := hK.2 ⟨1, .data⟩ (by simp) rfl _ rfl
          refine mm_sem (Instr.indexAt 38 (ac.tmps.getD 27 undef) (ac.tmps.getD 28 undef)) ((.pointer (some ⟨l, k, none⟩))) rfl (by kernel_rfl) (by kernel_rfl) ?_ hC (by kernel_rfl) (by rw [hsz]; exact of_decide_eq_true (by kernel_rfl)) rfl
          rw [h0, h1]
          exact HIX.out wx
        · intro ac wx hC hsz hK
          have h0 : ac.tmps.getD 29 undef = (.pointer (some ⟨l, k, none⟩)) := hK.2 ⟨2, .data⟩ (by simp) rfl _ rfl
          exact mm_load 25 (.tmp 29) ((.pointer (some ⟨l, k, none⟩))) ((.pointer (some ⟨F, 0, none⟩))) rfl rfl (by kernel_rfl) h0 (HLF.out wx (H5.out.below hC.1).fds) hC (by kernel_rfl) (by rw [hsz]; exact of_decide_eq_true (by kernel_rfl)) rfl
        · intro ac wx hC hsz hK
          have h0 : ac.tmps.getD 3 undef = (.slice (some ⟨l, 0, none⟩) 3 3) := hK.1 3 (by kernel_rfl)
          exact mm_val ((.slice (some ⟨l, 0, none⟩) 3 3)) rfl (by kernel_rfl) (by rw [← h0]; kernel_rfl) hC (by kernel_rfl) (by rw [hsz]; exact of_decide_eq_true (by kernel_rfl)) rfl
        · intro ac wx hC hsz hK
          have h0 : ac.tmps.getD 4 undef = (.int .i64 k) := hK.1 4 (by kernel_rfl)
          exact mm_val ((.int .i64 k)) rfl (by kernel_rfl) (by rw [← h0]; kernel_rfl) hC (by kernel_rfl) (by rw [hsz]; exact of_decide_eq_true (by kernel_rfl)) rfl
        · intro ac wx hC hsz hK
          have h0 : ac.tmps.getD 31 undef = (.slice (some ⟨l, 0, none⟩) 3 3) := hK.2 ⟨4, .data⟩ (by simp) rfl _ rfl
          have h1 : ac.tmps.getD 32 undef = (.int .i64 k) := hK.2 ⟨5, .data⟩ (by simp) rfl _ rfl
          refine mm_sem (Instr.indexAt 38 (ac.tmps.getD 31 undef) (ac.tmps.getD 32 undef)) ((.pointer (some ⟨l, k, none⟩))) rfl (by kernel_rfl) (by kernel_rfl) ?_ hC (by kernel_rfl) (by rw [hsz]; exact of_decide_eq_true (by kernel_rfl)) rfl
          rw [h0, h1]
          exact HIX.out wx
        · intro ac wx hC hsz hK
          have h0 : ac.tmps.getD 33 undef = (.pointer (some ⟨l, k, none⟩)) := hK.2 ⟨6, .data⟩ (by simp) rfl _ rfl
          exact mm_load 25 (.tmp 33) ((.pointer (some ⟨l, k, none⟩))) ((.pointer (some ⟨F, 0, none⟩))) rfl rfl (by kernel_rfl) h0 (HLF.out wx (H5.out.below hC.1).fds) hC (by kernel_rfl) (by rw [hsz]; exact of_decide_eq_true (by kernel_rfl)) rfl
        · intro ac wx hC hsz hK
          have h0 : ac.tmps.getD 1 undef = (.pointer (some ⟨w.heap.size, 0, none⟩)) := hK.1 1 (by kernel_rfl)
          exact mm_load 24 (.tmp 1) ((.pointer (some ⟨w.heap.size, 0, none⟩))) ((.agg (pw a))) rfl rfl (by kernel_rfl) h0 (ld_pw ((H5.out.below hC.1).is _ _ (by simp))) hC (by kernel_rfl) (by rw [hsz]; exact of_decide_eq_true (by kernel_rfl)) rfl
        · intro ac wx hC hsz hK
          have h0 : ac.tmps.getD 34 undef = (.pointer (some ⟨F, 0, none⟩)) := hK.2 ⟨7, .data⟩ (by simp) rfl _ rfl
          have h1 : ac.tmps.getD 35 undef = (.agg (pw a)) := hK.2 ⟨8, .data⟩ (by simp) rfl _ rfl
          refine mm_call 17 #[ac.tmps.getD 34 undef, ac.tmps.getD 35 undef] ((.agg (pw q))) rfl (by kernel_rfl) (by kernel_rfl) ?_ hC (by kernel_rfl) (by rw [hsz]; exact of_decide_eq_true (by kernel_rfl)) rfl
          rw [h0, h1]
          exact HN.out wx (HAT.out wx (H5.out.below hC.1).fds)
        · intro ac wx hC hsz hK
          have h0 : ac.tmps.getD 30 undef = (.pointer (some ⟨F, 0, none⟩)) := hK.2 ⟨3, .data⟩ (by simp) rfl _ rfl
          have h1 : ac.tmps.getD 36 undef = (.agg (pw q)) := hK.2 ⟨9, .data⟩ (by simp) rfl _ rfl
          refine mm_call 28 #[ac.tmps.getD 30 undef, ac.tmps.getD 36 undef] ((.tuple #[.agg (pw y), .bool pb])) rfl (by kernel_rfl) (by kernel_rfl) ?_ hC (by kernel_rfl) (by rw [hsz]; exact of_decide_eq_true (by kernel_rfl)) rfl
          rw [h0, h1]
          exact HB.out wx (HAT.out wx (H5.out.below hC.1).fds)
        · intro ac wx hC hsz hK
          have h0 : ac.tmps.getD 37 undef = (.tuple #[.agg (pw y), .bool pb]) := hK.2 ⟨10, .data⟩ (by simp) rfl _ rfl
          exact mm_val ((.tuple #[.agg (pw y), .bool pb])) rfl (by kernel_rfl) (by rw [← h0]; kernel_rfl) hC (by kernel_rfl) (by rw [hsz]; exact of_decide_eq_true (by kernel_rfl)) rfl
        · intro ac wx hC hsz hK
          have h0 : ac.tmps.getD 26 undef = (.tuple #[.agg (pw y), .bool pb]) := hK.2 ⟨11, .data⟩ (by simp) rfl _ rfl
          refine mm_sem (Instr.extract (ac.tmps.getD 26 undef) 0) ((.agg (pw y))) rfl (by kernel_rfl) (by kernel_rfl) ?_ hC (by kernel_rfl) (by rw [hsz]; exact of_decide_eq_true (by kernel_rfl)) rfl
          rw [h0]
          exact (by kernel_rfl)
        · intro ac wx hC hsz hK
          have h0 : ac.tmps.getD 26 undef = (.tuple #[.agg (pw y), .bool pb]) := hK.2 ⟨11, .data⟩ (by simp) rfl _ rfl
          refine mm_sem (Instr.extract (ac.tmps.getD 26 undef) 1) ((.bool pb)) rfl (by kernel_rfl) (by kernel_rfl) ?_ hC (by kernel_rfl) (by rw [hsz]; exact of_decide_eq_true (by kernel_rfl)) rfl
          rw [h0]
          exact (by kernel_rfl)
        · intro ac wx hC hsz hK
          exact mm_new 24 (#[.int .u64 0, .int .u64 0, .int .u64 0, .int .u64 0]) rfl (by kernel_rfl) (by kernel_rfl) hC (by rw [pw_size]; rfl) (by rw [hsz]; exact of_decide_eq_true (by kernel_rfl)) rfl
        · intro ac wx hC hsz hK
          have h0 : ac.tmps.getD 38 undef = (.agg (pw y)) := hK.2 ⟨12, .data⟩ (by simp) rfl _ rfl
          exact mm_store (p := 7) 24 (.tmp 7) (.tmp 38) _ rfl rfl (by kernel_rfl) rfl h0 (by simp) (hK.2 ⟨14, .data⟩ (by simp) rfl _ rfl) (fun D cs h3 h4 => store_w (h4.trans (pw_size _)) h3) hC rfl
        · intro ac wx hC hsz hK
          have h0 : ac.tmps.getD 39 undef = (.bool pb) := hK.2 ⟨13, .data⟩ (by simp) rfl _ rfl
          exact mm_val ((.bool pb)) rfl (by kernel_rfl) (by rw [← h0]; kernel_rfl) hC (by kernel_rfl) (by rw [hsz]; exact of_decide_eq_true (by kernel_rfl)) rfl
      intro f1 w6 hb6 hap hf6
      obtain ⟨D7, s7, -, r7⟩ := hf6 15 _ rfl
      have s8 := hf6 16 _ rfl
      have H6 := Lib.hid ((H5.out.below hb6).cons r7)
      clear hf6 hap hb6 H5 HB r7
      generalize hAct : putAll _ _ _ = G at *
      have s1 : G.tmps.getD 1 undef = .pointer (some ⟨w.heap.size, 0, none⟩) := by subst hAct; kernel_rfl
      have s0 : G.tmps.getD 0 undef = .agg (pw a) := by subst hAct; kernel_rfl
      have s9 : G.tmps.getD 9 undef = (.slice (some ⟨l, 0, none⟩) 3 3) := by subst hAct; kernel_rfl
      have s10 : G.tmps.getD 10 undef = (.slice (some ⟨l, 0, none⟩) 3 3) := by subst hAct; kernel_rfl
      have s11 : G.tmps.getD 11 undef = .int .i64 3 := by subst hAct; kernel_rfl
      have s12 : G.tmps.getD 12 undef = .bool false := by subst hAct; kernel_rfl
      have s89 : G.tmps.getD 89 undef = undef := by subst hAct; kernel_rfl
      have s3 : G.tmps.getD 3 undef = (.slice (some ⟨l, 0, none⟩) 3 3) := by subst hAct; kernel_rfl
      have s4 : G.tmps.getD 4 undef = .int .i64 k := by subst hAct; kernel_rfl
      have s5 : G.tmps.getD 5 undef = .pointer (some ⟨D5, 0, none⟩) := by subst hAct; kernel_rfl
      have s6 : G.tmps.getD 6 undef = .bool pa := by subst hAct; kernel_rfl
      have s7' : G.tmps.getD 7 undef = .pointer (some ⟨D7, 0, none⟩) := s7
      have s8' : G.tmps.getD 8 undef = .bool pb := s8
      have hsz : G.tmps.size = 90 := by rw [← hAct, putAll_size]; rfl
      have hdf : G.defers = [] := by subst hAct; kernel_rfl
      clear hAct s7 s8 f1
      obtain ⟨u2, t2⟩ : ∃ u, G.tmps.getD 2 undef = u := ⟨_, rfl⟩
      obtain ⟨u13, t13⟩ : ∃ u, G.tmps.getD 13 undef = u := ⟨_, rfl⟩
      obtain ⟨u14, t14⟩ : ∃ u, G.tmps.getD 14 undef = u := ⟨_, rfl⟩
      obtain ⟨u15, t15⟩ : ∃ u, G.tmps.getD 15 undef = u := ⟨_, rfl⟩
      obtain ⟨u16, t16⟩ : ∃ u, G.tmps.getD 16 undef = u := ⟨_, rfl⟩
      obtain ⟨u17, t17⟩ : ∃ u, G.tmps.getD 17 undef = u := ⟨_, rfl⟩
      obtain ⟨u18, t18⟩ : ∃ u, G.tmps.getD 18 undef = u := ⟨_, rfl⟩
      obtain ⟨u19, t19⟩ : ∃ u, G.tmps.getD 19 undef = u := ⟨_, rfl⟩
      obtain ⟨u20, t20⟩ : ∃ u, G.tmps.getD 20 undef = u := ⟨_, rfl⟩
      obtain ⟨u21, t21⟩ : ∃ u, G.tmps.getD 21 undef = u := ⟨_, rfl⟩
      obtain ⟨u22, t22⟩ : ∃ u, G.tmps.getD 22 undef = u := ⟨_, rfl⟩
      obtain ⟨u23, t23⟩ : ∃ u, G.tmps.getD 23 undef = u := ⟨_, rfl⟩
      obtain ⟨u24, t24⟩ : ∃ u, G.tmps.getD 24 undef = u := ⟨_, rfl⟩
      obtain ⟨u25, t25⟩ : ∃ u, G.tmps.getD 25 undef = u := ⟨_, rfl⟩
      obtain ⟨u26, t26⟩ : ∃ u, G.tmps.getD 26 undef = u := ⟨_, rfl⟩
      obtain ⟨u27, t27⟩ : ∃ u, G.tmps.getD 27 undef = u := ⟨_, rfl⟩
      obtain ⟨u28, t28⟩ : ∃ u, G.tmps.getD 28 undef = u := ⟨_, rfl⟩
      obtain ⟨u29, t29⟩ : ∃ u, G.tmps.getD 29 undef = u := ⟨_, rfl⟩
      obtain ⟨u30, t30⟩ : ∃ u, G.tmps.getD 30 undef = u := ⟨_, rfl⟩
      obtain ⟨u31, t31⟩ : ∃ u, G.tmps.getD 31 undef = u := ⟨_, rfl⟩
      obtain ⟨u32, t32⟩ : ∃ u, G.tmps.getD 32 undef = u := ⟨_, rfl⟩
      obtain ⟨u33, t33⟩ : ∃ u, G.tmps.getD 33 undef = u := ⟨_, rfl⟩
      obtain ⟨u34, t34⟩ : ∃ u, G.tmps.getD 34 undef = u := ⟨_, rfl⟩
      obtain ⟨u35, t35⟩ : ∃ u, G.tmps.getD 35 undef = u := ⟨_, rfl⟩
      obtain ⟨u36, t36⟩ : ∃ u, G.tmps.getD 36 undef = u := ⟨_, rfl⟩
      obtain ⟨u37, t37⟩ : ∃ u, G.tmps.getD 37 undef = u := ⟨_, rfl⟩
      obtain ⟨u38, t38⟩ : ∃ u, G.tmps.getD 38 undef = u := ⟨_, rfl⟩
      obtain ⟨u39, t39⟩ : ∃ u, G.tmps.getD 39 undef = u := ⟨_, rfl⟩
      obtain ⟨u40, t40⟩ : ∃ u, G.tmps.getD 40 undef = u := ⟨_, rfl⟩
      obtain ⟨u41, t41⟩ : ∃ u, G.tmps.getD 41 undef = u := ⟨_, rfl⟩
      obtain ⟨u42, t42⟩ : ∃ u, G.tmps.getD 42 undef = u := ⟨_, rfl⟩
      obtain ⟨u43, t43⟩ : ∃ u, G.tmps.getD 43 undef = u := ⟨_, rfl⟩
      obtain ⟨u44, t44⟩ : ∃ u, G.tmps.getD 44 undef = u := ⟨_, rfl⟩
      obtain ⟨u45, t45⟩ : ∃ u, G.tmps.getD 45 undef = u := ⟨_, rfl⟩
      obtain ⟨u46, t46⟩ : ∃ u, G.tmps.getD 46 undef = u := ⟨_, rfl⟩
      obtain ⟨u47, t47⟩ : ∃ u, G.tmps.getD 47 undef = u := ⟨_, rfl⟩
      obtain ⟨u48, t48⟩ : ∃ u, G.tmps.getD 48 undef = u := ⟨_, rfl⟩
      obtain ⟨u49, t49⟩ : ∃ u, G.tmps.getD 49 undef = u := ⟨_, rfl⟩
      obtain ⟨u50, t50⟩ : ∃ u, G.tmps.getD 50 undef = u := ⟨_, rfl⟩
      obtain ⟨u51, t51⟩ : ∃ u, G.tmps.getD 51 undef = u := ⟨_, rfl⟩
      obtain ⟨u52, t52⟩ : ∃ u, G.tmps.getD 52 undef = u := ⟨_, rfl⟩
      obtain ⟨u53, t53⟩ : ∃ u, G.tmps.getD 53 undef = u := ⟨_, rfl⟩
      obtain ⟨u54, t54⟩ : ∃ u, G.tmps.getD 54 undef = u := ⟨_, rfl⟩
      obtain ⟨u55, t55⟩ : ∃ u, G.tmps.getD 55 undef = u := ⟨_, rfl⟩
      obtain ⟨u56, t56⟩ : ∃ u, G.tmps.getD 56 undef = u := ⟨_, rfl⟩
      obtain ⟨u57, t57⟩ : ∃ u, G.tmps.getD 57 undef = u := ⟨_, rfl⟩
      obtain ⟨u58, t58⟩ : ∃ u, G.tmps.getD 58 undef = u := ⟨_, rfl⟩
      obtain ⟨u59, t59⟩ : ∃ u, G.tmps.getD 59 undef = u := ⟨_, rfl⟩
      obtain ⟨u60, t60⟩ : ∃ u, G.tmps.getD 60 undef = u := ⟨_, rfl⟩
      obtain ⟨u61, t61⟩ : ∃ u, G.tmps.getD 61 undef = u := ⟨_, rfl⟩
      obtain ⟨u62, t62⟩ : ∃ u, G.tmps.getD 62 undef = u := ⟨_, rfl⟩
      obtain ⟨u63, t63⟩ : ∃ u, G.tmps.getD 63 undef = u := ⟨_, rfl⟩
      obtain ⟨u64, t64⟩ : ∃ u, G.tmps.getD 64 undef = u := ⟨_, rfl⟩
      obtain ⟨u65, t65⟩ : ∃ u, G.tmps.getD 65 undef = u := ⟨_, rfl⟩
      obtain ⟨u66, t66⟩ : ∃ u, G.tmps.getD 66 undef = u := ⟨_, rfl⟩
      obtain ⟨u67, t67⟩ : ∃ u, G.tmps.getD 67 undef = u := ⟨_, rfl⟩
      obtain ⟨u68, t68⟩ : ∃ u, G.tmps.getD 68 undef = u := ⟨_, rfl⟩
      obtain ⟨u69, t69⟩ : ∃ u, G.tmps.getD 69 undef = u := ⟨_, rfl⟩
      obtain ⟨u70, t70⟩ : ∃ u, G.tmps.getD 70 undef = u := ⟨_, rfl⟩
      obtain ⟨u71, t71⟩ : ∃ u, G.tmps.getD 71 undef = u := ⟨_, rfl⟩
      obtain ⟨u72, t72⟩ : ∃ u, G.tmps.getD 72 undef = u := ⟨_, rfl⟩
      obtain ⟨u73, t73⟩ : ∃ u, G.tmps.getD 73 undef = u := ⟨_, rfl⟩
      obtain ⟨u74, t74⟩ : ∃ u, G.tmps.getD 74 undef = u := ⟨_, rfl⟩
      obtain ⟨u75, t75⟩ : ∃ u, G.tmps.getD 75 undef = u := ⟨_, rfl⟩
      obtain ⟨u76, t76⟩ : ∃ u, G.tmps.getD 76 undef = u := ⟨_, rfl⟩
      obtain ⟨u77, t77⟩ : ∃ u, G.tmps.getD 77 undef = u := ⟨_, rfl⟩
      obtain ⟨u78, t78⟩ : ∃ u, G.tmps.getD 78 undef = u := ⟨_, rfl⟩
      obtain ⟨u79, t79⟩ : ∃ u, G.tmps.getD 79 undef = u := ⟨_, rfl⟩
      obtain ⟨u80, t80⟩ : ∃ u, G.tmps.getD 80 undef = u := ⟨_, rfl⟩
      obtain ⟨u81, t81⟩ : ∃ u, G.tmps.getD 81 undef = u := ⟨_, rfl⟩
      obtain ⟨u82, t82⟩ : ∃ u, G.tmps.getD 82 undef = u := ⟨_, rfl⟩
      obtain ⟨u83, t83⟩ : ∃ u, G.tmps.getD 83 undef = u := ⟨_, rfl⟩
      obtain ⟨u84, t84⟩ : ∃ u, G.tmps.getD 84 undef = u := ⟨_, rfl⟩
      obtain ⟨u85, t85⟩ : ∃ u, G.tmps.getD 85 undef = u := ⟨_, rfl⟩
      obtain ⟨u86, t86⟩ : ∃ u, G.tmps.getD 86 undef = u := ⟨_, rfl⟩
      obtain ⟨u87, t87⟩ : ∃ u, G.tmps.getD 87 undef = u := ⟨_, rfl⟩
      obtain ⟨u88, t88⟩ : ∃ u, G.tmps.getD 88 undef = u := ⟨_, rfl⟩
      obtain ⟨tm, df⟩ := G
      simp only at *
      have hLt := arr_lit5 tm
      rw [hsz] at hLt
      simp only [List.range, List.range.loop, List.map] at hLt
      rw [s0, s1, t2, s3, s4, s5, s6, s7', s8', s9, s10, s11, s12, t13, t14, t15, t16, t17, t18, t19, t20, t21, t22, t23, t24, t25, t26, t27, t28, t29, t30, t31, t32, t33, t34, t35, t36, t37, t38, t39, t40, t41, t42, t43, t44, t45, t46, t47, t48, t49, t50, t51, t52, t53, t54, t55, t56, t57, t58, t59, t60, t61, t62, t63, t64, t65, t66, t67, t68, t69, t70, t71, t72, t73, t74, t75, t76, t77, t78, t79, t80, t81, t82, t83, t84, t85, t86, t87, t88, s89] at hLt
      subst hLt hdf
      clear s0 s1 t2 s3 s4 s5 s6 s7' s8' s9 s10 s11 s12 t13 t14 t15 t16 t17 t18 t19 t20 t21 t22 t23 t24 t25 t26 t27 t28 t29 t30 t31 t32 t33 t34 t35 t36 t37 t38 t39 t40 t41 t42 t43 t44 t45 t46 t47 t48 t49 t50 t51 t52 t53 t54 t55 t56 t57 t58 t59 t60 t61 t62 t63 t64 t65 t66 t67 t68 t69 t70 t71 t72 t73 t74 t75 t76 t77 t78 t79 t80 t81 t82 t83 t84 t85 t86 t87 t88 s89 hsz
      go_wp2_with fail
      have HSAME := Lib.hid (show pa = pb → r = 0 from fun e => Classical.byContradiction fun hn => HON.out hn e)
      clear HON
      cases pa with
      | true =>
        rw [HXX.out rfl] at HM1
        cases pb with
        | true =>
          obtain rfl : r = 0 := HSAME.out rfl
          rw [HYY.out rfl] at HM2
          clear HSAME HXX HYY
          refine wp_region_quiet (C := CF w l f g h ((D7, pw y) :: (D5, pw x) :: [(w.heap.size, pw a)])) (by kernel_rfl) (by kernel_rfl) (H6.out.drew) ?_
          simp only
          with_reducible refine q_val (.bool true) (by kernel_rfl) (fun _ _ => by kernel_rfl) ?_
          with_reducible refine q_val (.bool true) (by kernel_rfl) (fun _ _ => by kernel_rfl) ?_
          with_reducible refine q_val (.slice (some ⟨l, 0, none⟩) 3 3) (by kernel_rfl) (fun _ _ => by kernel_rfl) ?_
          with_reducible refine q_val (.int .i64 k) (by kernel_rfl) (fun _ _ => by kernel_rfl) ?_
          with_reducible refine q_sem2 (Instr.indexAt 38 (.slice (some ⟨l, 0, none⟩) 3 3) (.int .i64 k)) (.pointer (some ⟨l, k, none⟩)) (by kernel_rfl) (by kernel_rfl) (fun w' _ => HIX.out w') ?_
          with_reducible refine q_load 25 (.tmp 44) (.pointer (some ⟨l, k, none⟩)) (.pointer (some ⟨F, 0, none⟩)) rfl (by kernel_rfl) (by kernel_rfl) (fun w' c => HLF.out w' c.fds) ?_
          with_reducible refine q_load 24 (.tmp 5) (.pointer (some ⟨D5, 0, none⟩)) (.agg (pw x)) rfl (by kernel_rfl) (by kernel_rfl) (fun _ c => ld_pw (c.is _ _ (by simp))) ?_
          with_reducible refine q_load 24 (.tmp 5) (.pointer (some ⟨D5, 0, none⟩)) (.agg (pw x)) rfl (by kernel_rfl) (by kernel_rfl) (fun _ c => ld_pw (c.is _ _ (by simp))) ?_
          with_reducible refine q_call 15 #[.pointer (some ⟨F, 0, none⟩), .agg (pw x), .agg (pw x)] (.agg (pw 0)) (by kernel_rfl) (fun _ => by kernel_rfl) (CF.calls HAT.out HM1.out) ?_
          with_reducible refine q_val (.slice (some ⟨l, 0, none⟩) 3 3) (by kernel_rfl) (fun _ _ => by kernel_rfl) ?_
          with_reducible refine q_val (.int .i64 k) (by kernel_rfl) (fun _ _ => by kernel_rfl) ?_
          with_reducible refine q_sem2 (Instr.indexAt 38 (.slice (some ⟨l, 0, none⟩) 3 3) (.int .i64 k)) (.pointer (some ⟨l, k, none⟩)) (by kernel_rfl) (by kernel_rfl) (fun w' _ => HIX.out w') ?_
          with_reducible refine q_load 25 (.tmp 51) (.pointer (some ⟨l, k, none⟩)) (.pointer (some ⟨F, 0, none⟩)) rfl (by kernel_rfl) (by kernel_rfl) (fun w' c => HLF.out w' c.fds) ?_
          with_reducible refine q_load 24 (.tmp 1) (.pointer (some ⟨w.heap.size, 0, none⟩)) (.agg (pw a)) rfl (by kernel_rfl) (by kernel_rfl) (fun _ c => ld_pw (c.is _ _ (by simp))) ?_
          with_reducible refine q_call 13 #[.pointer (some ⟨F, 0, none⟩), .agg (pw a)] (.agg (pw 0)) (by kernel_rfl) (fun _ => by kernel_rfl) (CF.calls HAT.out HO.out) ?_
          with_reducible refine q_bin .neq 24 _ _ 24 (.agg (pw 0)) (.agg (pw 0)) (.bool false) rfl (by kernel_rfl) (by kernel_rfl) (by kernel_rfl) (fun _ => by kernel_rfl) (fun w' => HN1.out w') ?_
          with_reducible refine q_val (.bool false) (by kernel_rfl) (fun _ _ => by kernel_rfl) ?_
          with_reducible refine q_val (.bool false) (by kernel_rfl) (fun _ _ => by kernel_rfl) ?_
          with_reducible refine q_val (.bool true) (by kernel_rfl) (fun _ _ => by kernel_rfl) ?_
          with_reducible refine q_val (.bool true) (by kernel_rfl) (fun _ _ => by kernel_rfl) ?_
          with_reducible refine q_val (.slice (some ⟨l, 0, none⟩) 3 3) (by kernel_rfl) (fun _ _ => by kernel_rfl) ?_
          with_reducible refine q_val (.int .i64 k) (by kernel_rfl) (fun _ _ => by kernel_rfl) ?_
          with_reducible refine q_sem2 (Instr.indexAt 38 (.slice (some ⟨l, 0, none⟩) 3 3) (.int .i64 k)) (.pointer (some ⟨l, k, none⟩)) (by kernel_rfl) (by kernel_rfl) (fun w' _ => HIX.out w') ?_
          with_reducible refine q_load 25 (.tmp 62) (.pointer (some ⟨l, k, none⟩)) (.pointer (some ⟨F, 0, none⟩)) rfl (by kernel_rfl) (by kernel_rfl) (fun w' c => HLF.out w' c.fds) ?_
          with_reducible refine q_load 24 (.tmp 7) (.pointer (some ⟨D7, 0, none⟩)) (.agg (pw y)) rfl (by kernel_rfl) (by kernel_rfl) (fun _ c => ld_pw (c.is _ _ (by simp))) ?_
          with_reducible refine q_load 24 (.tmp 7) (.pointer (some ⟨D7, 0, none⟩)) (.agg (pw y)) rfl (by kernel_rfl) (by kernel_rfl) (fun _ c => ld_pw (c.is _ _ (by simp))) ?_
          with_reducible refine q_call 15 #[.pointer (some ⟨F, 0, none⟩), .agg (pw y), .agg (pw y)] (.agg (pw q)) (by kernel_rfl) (fun _ => by kernel_rfl) (CF.calls HAT.out HM2.out) ?_
          with_reducible refine q_val (.slice (some ⟨l, 0, none⟩) 3 3) (by kernel_rfl) (fun _ _ => by kernel_rfl) ?_
          with_reducible refine q_val (.int .i64 k) (by kernel_rfl) (fun _ _ => by kernel_rfl) ?_
          with_reducible refine q_sem2 (Instr.indexAt 38 (.slice (some ⟨l, 0, none⟩) 3 3) (.int .i64 k)) (.pointer (some ⟨l, k, none⟩)) (by kernel_rfl) (by kernel_rfl) (fun w' _ => HIX.out w') ?_
          with_reducible refine q_load 25 (.tmp 69) (.pointer (some ⟨l, k, none⟩)) (.pointer (some ⟨F, 0, none⟩)) rfl (by kernel_rfl) (by kernel_rfl) (fun w' c => HLF.out w' c.fds) ?_
          with_reducible refine q_load 24 (.tmp 1) (.pointer (some ⟨w.heap.size, 0, none⟩)) (.agg (pw a)) rfl (by kernel_rfl) (by kernel_rfl) (fun _ c => ld_pw (c.is _ _ (by simp))) ?_
          with_reducible refine q_call 17 #[.pointer (some ⟨F, 0, none⟩), .agg (pw a)] (.agg (pw q)) (by kernel_rfl) (fun _ => by kernel_rfl) (CF.calls HAT.out HN.out) ?_
          with_reducible refine q_bin .neq 24 _ _ 24 (.agg (pw q)) (.agg (pw q)) (.bool false) rfl (by kernel_rfl) (by kernel_rfl) (by kernel_rfl) (fun _ => by kernel_rfl) (fun w' => HN2.out w') ?_
          with_reducible refine q_val (.bool false) (by kernel_rfl) (fun _ _ => by kernel_rfl) ?_
          with_reducible refine q_val (.bool false) (by kernel_rfl) (fun _ _ => by kernel_rfl) ?_
          with_reducible refine wpQuiet_nil ?_
          intro wx hC
          have HC := Lib.hid hC
          clear hC H6
          simp only [Act.put, List.setIfInBounds_toArray, List.set_cons_succ, List.set_cons_zero]
          go_wp2_with fail
          refine wp_region_quiet (C := CF w l f g h ((D7, pw y) :: (D5, pw x) :: [(w.heap.size, pw a)])) (by kernel_rfl) (by kernel_rfl) (HC.out.drew) ?_
          simp only
          with_reducible refine q_val (.bool true) (by kernel_rfl) (fun _ _ => by kernel_rfl) ?_
          with_reducible refine q_val (.bool true) (by kernel_rfl) (fun _ _ => by kernel_rfl) ?_
          with_reducible refine q_bin .eql 4 _ _ 4 (.bool true) (.bool true) (.bool true) rfl (by kernel_rfl) (by kernel_rfl) (by kernel_rfl) (fun _ => by kernel_rfl) (fun w' => by kernel_rfl) ?_
          with_reducible refine q_val (.bool true) (by kernel_rfl) (fun _ _ => by kernel_rfl) ?_
          with_reducible refine q_val (.slice (some ⟨l, 0, none⟩) 3 3) (by kernel_rfl) (fun _ _ => by kernel_rfl) ?_
          with_reducible refine q_val (.int .i64 k) (by kernel_rfl) (fun _ _ => by kernel_rfl) ?_
          with_reducible refine q_sem2 (Instr.indexAt 38 (.slice (some ⟨l, 0, none⟩) 3 3) (.int .i64 k)) (.pointer (some ⟨l, k, none⟩)) (by kernel_rfl) (by kernel_rfl) (fun w' _ => HIX.out w') ?_
          with_reducible refine q_load 25 (.tmp 82) (.pointer (some ⟨l, k, none⟩)) (.pointer (some ⟨F, 0, none⟩)) rfl (by kernel_rfl) (by kernel_rfl) (fun w' c => HLF.out w' c.fds) ?_
          with_reducible refine q_load 24 (.tmp 1) (.pointer (some ⟨w.heap.size, 0, none⟩)) (.agg (pw a)) rfl (by kernel_rfl) (by kernel_rfl) (fun _ c => ld_pw (c.is _ _ (by simp))) ?_
          with_reducible refine q_call 13 #[.pointer (some ⟨F, 0, none⟩), .agg (pw a)] (.agg (pw 0)) (by kernel_rfl) (fun _ => by kernel_rfl) (CF.calls HAT.out HO.out) ?_
          with_reducible refine q_val (.agg #[.int .u64 0, .int .u64 0, .int .u64 0, .int .u64 0]) (by kernel_rfl) (fun _ _ => by kernel_rfl) ?_
          with_reducible refine q_bin .neq 24 _ _ 24 (.agg (pw 0)) (.agg #[.int .u64 0, .int .u64 0, .int .u64 0, .int .u64 0]) (.bool false) rfl (by kernel_rfl) (by kernel_rfl) (by kernel_rfl) (fun _ => by kernel_rfl) (fun w' => HN3.out w') ?_
          with_reducible refine q_val (.bool false) (by kernel_rfl) (fun _ _ => by kernel_rfl) ?_
          with_reducible refine wpQuiet_nil ?_
          intro wx hC
          have HD := Lib.hid hC
          clear hC HC
          simp only [Act.put, List.setIfInBounds_toArray, List.set_cons_succ, List.set_cons_zero]
          go_wp2_with fail
          go_roundw
          case rel => exact ⟨k + 2, by have := HK.out.1; omega, by have := HK.out.2; omega, by go_num, Lib.hid (HD.out.less _ (fun p hp => List.mem_cons_of_mem _ (List.mem_cons_of_mem _ hp)))⟩
          case measure => have := HK.out.1; simp [intOf]; omega
        | false =>
          clear HSAME HXX HYY
          refine wp_region_quiet (C := CF w l f g h ((D7, pw y) :: (D5, pw x) :: [(w.heap.size, pw a)])) (by kernel_rfl) (by kernel_rfl) (H6.out.drew) ?_
          simp only
          with_reducible refine q_val (.bool true) (by kernel_rfl) (fun _ _ => by kernel_rfl) ?_
          with_reducible refine q_val (.bool true) (by kernel_rfl) (fun _ _ => by kernel_rfl) ?_
          with_reducible refine q_val (.slice (some ⟨l, 0, none⟩) 3 3) (by kernel_rfl) (fun _ _ => by kernel_rfl) ?_
          with_reducible refine q_val (.int .i64 k) (by kernel_rfl) (fun _ _ => by kernel_rfl) ?_
          with_reducible refine q_sem2 (Instr.indexAt 38 (.slice (some ⟨l, 0, none⟩) 3 3) (.int .i64 k)) (.pointer (some ⟨l, k, none⟩)) (by kernel_rfl) (by kernel_rfl) (fun w' _ => HIX.out w') ?_
          with_reducible refine q_load 25 (.tmp 44) (.pointer (some ⟨l, k, none⟩)) (.pointer (some ⟨F, 0, none⟩)) rfl (by kernel_rfl) (by kernel_rfl) (fun w' c => HLF.out w' c.fds) ?_
          with_reducible refine q_load 24 (.tmp 5) (.pointer (some ⟨D5, 0, none⟩)) (.agg (pw x)) rfl (by kernel_rfl) (by kernel_rfl) (fun _ c => ld_pw (c.is _ _ (by simp))) ?_
          with_reducible refine q_load 24 (.tmp 5) (.pointer (some ⟨D5, 0, none⟩)) (.agg (pw x)) rfl (by kernel_rfl) (by kernel_rfl) (fun _ c => ld_pw (c.is _ _ (by simp))) ?_
          with_reducible refine q_call 15 #[.pointer (some ⟨F, 0, none⟩), .agg (pw x), .agg (pw x)] (.agg (pw r)) (by kernel_rfl) (fun _ => by kernel_rfl) (CF.calls HAT.out HM1.out) ?_
          with_reducible refine q_val (.slice (some ⟨l, 0, none⟩) 3 3) (by kernel_rfl) (fun _ _ => by kernel_rfl) ?_
          with_reducible refine q_val (.int .i64 k) (by kernel_rfl) (fun _ _ => by kernel_rfl) ?_
          with_reducible refine q_sem2 (Instr.indexAt 38 (.slice (some ⟨l, 0, none⟩) 3 3) (.int .i64 k)) (.pointer (some ⟨l, k, none⟩)) (by kernel_rfl) (by kernel_rfl) (fun w' _ => HIX.out w') ?_
          with_reducible refine q_load 25 (.tmp 51) (.pointer (some ⟨l, k, none⟩)) (.pointer (some ⟨F, 0, none⟩)) rfl (by kernel_rfl) (by kernel_rfl) (fun w' c => HLF.out w' c.fds) ?_
          with_reducible refine q_load 24 (.tmp 1) (.pointer (some ⟨w.heap.size, 0, none⟩)) (.agg (pw a)) rfl (by kernel_rfl) (by kernel_rfl) (fun _ c => ld_pw (c.is _ _ (by simp))) ?_
          with_reducible refine q_call 13 #[.pointer (some ⟨F, 0, none⟩), .agg (pw a)] (.agg (pw r)) (by kernel_rfl) (fun _ => by kernel_rfl) (CF.calls HAT.out HO.out) ?_
          with_reducible refine q_bin .neq 24 _ _ 24 (.agg (pw r)) (.agg (pw r)) (.bool false) rfl (by kernel_rfl) (by kernel_rfl) (by kernel_rfl) (fun _ => by kernel_rfl) (fun w' => HN1.out w') ?_
          with_reducible refine q_val (.bool false) (by kernel_rfl) (fun _ _ => by kernel_rfl) ?_
          with_reducible refine q_val (.bool false) (by kernel_rfl) (fun _ _ => by kernel_rfl) ?_
          with_reducible refine q_val (.bool false) (by kernel_rfl) (fun _ _ => by kernel_rfl) ?_
          with_reducible refine q_val (.bool false) (by kernel_rfl) (fun _ _ => by kernel_rfl) ?_
          with_reducible refine q_skip (by kernel_rfl) ?_
          with_reducible refine q_skip (by kernel_rfl) ?_
          with_reducible refine q_skip (by kernel_rfl) ?_
          with_reducible refine q_skip (by kernel_rfl) ?_
          with_reducible refine q_skip (by kernel_rfl) ?_
          with_reducible refine q_skip (by kernel_rfl) ?_
          with_reducible refine q_skip (by kernel_rfl) ?_
          with_reducible refine q_skip (by kernel_rfl) ?_
          with_reducible refine q_skip (by kernel_rfl) ?_
          with_reducible refine q_skip (by kernel_rfl) ?_
          with_reducible refine q_skip (by kernel_rfl) ?_
          with_reducible refine q_skip (by kernel_rfl) ?_
          with_reducible refine q_skip (by kernel_rfl) ?_
          with_reducible refine q_skip (by kernel_rfl) ?_
          with_reducible refine q_val (.bool false) (by kernel_rfl) (fun _ _ => by kernel_rfl) ?_
          with_reducible refine q_val (.bool false) (by kernel_rfl) (fun _ _ => by kernel_rfl) ?_
          with_reducible refine wpQuiet_nil ?_
          intro wx hC
          have HC := Lib.hid hC
          clear hC H6
          simp only [Act.put, List.setIfInBounds_toArray, List.set_cons_succ, List.set_cons_zero]
          go_wp2_with fail
          refine wp_region_quiet (C := CF w l f g h ((D7, pw y) :: (D5, pw x) :: [(w.heap.size, pw a)])) (by kernel_rfl) (by kernel_rfl) (HC.out.drew) ?_
          simp only
          with_reducible refine q_val (.bool true) (by kernel_rfl) (fun _ _ => by kernel_rfl) ?_
          with_reducible refine q_val (.bool false) (by kernel_rfl) (fun _ _ => by kernel_rfl) ?_
          with_reducible refine q_bin .eql 4 _ _ 4 (.bool true) (.bool false) (.bool false) rfl (by kernel_rfl) (by kernel_rfl) (by kernel_rfl) (fun _ => by kernel_rfl) (fun w' => by kernel_rfl) ?_
          with_reducible refine q_val (.bool false) (by kernel_rfl) (fun _ _ => by kernel_rfl) ?_
          with_reducible refine q_skip (by kernel_rfl) ?_
          with_reducible refine q_skip (by kernel_rfl) ?_
          with_reducible refine q_skip (by kernel_rfl) ?_
          with_reducible refine q_skip (by kernel_rfl) ?_
          with_reducible refine q_skip (by kernel_rfl) ?_
          with_reducible refine q_skip (by kernel_rfl) ?_
          with_reducible refine q_skip (by kernel_rfl) ?_
          with_reducible refine q_skip (by kernel_rfl) ?_
          with_reducible refine q_val (.bool false) (by kernel_rfl) (fun _ _ => by kernel_rfl) ?_
          with_reducible refine wpQuiet_nil ?_
          intro wx hC
          have HD := Lib.hid hC
          clear hC HC
          simp only [Act.put, List.setIfInBounds_toArray, List.set_cons_succ, List.set_cons_zero]
          go_wp2_with fail
          go_roundw
          case rel => exact ⟨k + 2, by have := HK.out.1; omega, by have := HK.out.2; omega, by go_num, Lib.hid (HD.out.less _ (fun p hp => List.mem_cons_of_mem _ (List.mem_cons_of_mem _ hp)))⟩
          case measure => have := HK.out.1; simp [intOf]; omega
      | false =>
        cases pb with
        | true =>
          rw [HYY.out rfl] at HM2
          clear HSAME HXX HYY
          refine wp_region_quiet (C := CF w l f g h ((D7, pw y) :: (D5, pw x) :: [(w.heap.size, pw a)])) (by kernel_rfl) (by kernel_rfl) (H6.out.drew) ?_
          simp only
          with_reducible refine q_val (.bool false) (by kernel_rfl) (fun _ _ => by kernel_rfl) ?_
          with_reducible refine q_val (.bool false) (by kernel_rfl) (fun _ _ => by kernel_rfl) ?_
          with_reducible refine q_skip (by kernel_rfl) ?_
          with_reducible refine q_skip (by kernel_rfl) ?_
          with_reducible refine q_skip (by kernel_rfl) ?_
          with_reducible refine q_skip (by kernel_rfl) ?_
          with_reducible refine q_skip (by kernel_rfl) ?_
          with_reducible refine q_skip (by kernel_rfl) ?_
          with_reducible refine q_skip (by kernel_rfl) ?_
          with_reducible refine q_skip (by kernel_rfl) ?_
          with_reducible refine q_skip (by kernel_rfl) ?_
          with_reducible refine q_skip (by kernel_rfl) ?_
          with_reducible refine q_skip (by kernel_rfl) ?_
          with_reducible refine q_skip (by kernel_rfl) ?_
          with_reducible refine q_skip (by kernel_rfl) ?_
          with_reducible refine q_skip (by kernel_rfl) ?_
          with_reducible refine q_val (.bool false) (by kernel_rfl) (fun _ _ => by kernel_rfl) ?_
          with_reducible refine q_val (.bool false) (by kernel_rfl) (fun _ _ => by kernel_rfl) ?_
          with_reducible refine q_val (.bool true) (by kernel_rfl) (fun _ _ => by kernel_rfl) ?_
          with_reducible refine q_val (.bool true) (by kernel_rfl) (fun _ _ => by kernel_rfl) ?_
          with_reducible refine q_val (.slice (some ⟨l, 0, none⟩) 3 3) (by kernel_rfl) (fun _ _ => by kernel_rfl) ?_
          with_reducible refine q_val (.int .i64 k) (by kernel_rfl) (fun _ _ => by kernel_rfl) ?_
          with_reducible refine q_sem2 (Instr.indexAt 38 (.slice (some ⟨l, 0, none⟩) 3 3) (.int .i64 k)) (.pointer (some ⟨l, k, none⟩)) (by kernel_rfl) (by kernel_rfl) (fun w' _ => HIX.out w') ?_
          with_reducible refine q_load 25 (.tmp 62) (.pointer (some ⟨l, k, none⟩)) (.pointer (some ⟨F, 0, none⟩)) rfl (by kernel_rfl) (by kernel_rfl) (fun w' c => HLF.out w' c.fds) ?_
          with_reducible refine q_load 24 (.tmp 7) (.pointer (some ⟨D7, 0, none⟩)) (.agg (pw y)) rfl (by kernel_rfl) (by kernel_rfl) (fun _ c => ld_pw (c.is _ _ (by simp))) ?_
          with_reducible refine q_load 24 (.tmp 7) (.pointer (some ⟨D7, 0, none⟩)) (.agg (pw y)) rfl (by kernel_rfl) (by kernel_rfl) (fun _ c => ld_pw (c.is _ _ (by simp))) ?_
          with_reducible refine q_call 15 #[.pointer (some ⟨F, 0, none⟩), .agg (pw y), .agg (pw y)] (.agg (pw q)) (by kernel_rfl) (fun _ => by kernel_rfl) (CF.calls HAT.out HM2.out) ?_
          with_reducible refine q_val (.slice (some ⟨l, 0, none⟩) 3 3) (by kernel_rfl) (fun _ _ => by kernel_rfl) ?_
          with_reducible refine q_val (.int .i64 k) (by kernel_rfl) (fun _ _ => by kernel_rfl) ?_
          with_reducible refine q_sem2 (Instr.indexAt 38 (.slice (some ⟨l, 0, none⟩) 3 3) (.int .i64 k)) (.pointer (some ⟨l, k, none⟩)) (by kernel_rfl) (by kernel_rfl) (fun w' _ => HIX.out w') ?_
          with_reducible refine q_load 25 (.tmp 69) (.pointer (some ⟨l, k, none⟩)) (.pointer (some ⟨F, 0, none⟩)) rfl (by kernel_rfl) (by kernel_rfl) (fun w' c => HLF.out w' c.fds) ?_
          with_reducible refine q_load 24 (.tmp 1) (.pointer (some ⟨w.heap.size, 0, none⟩)) (.agg (pw a)) rfl (by kernel_rfl) (by kernel_rfl) (fun _ c => ld_pw (c.is _ _ (by simp))) ?_
          with_reducible refine q_call 17 #[.pointer (some ⟨F, 0, none⟩), .agg (pw a)] (.agg (pw q)) (by kernel_rfl) (fun _ => by kernel_rfl) (CF.calls HAT.out HN.out) ?_
          with_reducible refine q_bin .neq 24 _ _ 24 (.agg (pw q)) (.agg (pw q)) (.bool false) rfl (by kernel_rfl) (by kernel_rfl) (by kernel_rfl) (fun _ => by kernel_rfl) (fun w' => HN2.out w') ?_
          with_reducible refine q_val (.bool false) (by kernel_rfl) (fun _ _ => by kernel_rfl) ?_
          with_reducible refine q_val (.bool false) (by kernel_rfl) (fun _ _ => by kernel_rfl) ?_
          with_reducible refine wpQuiet_nil ?_
          intro wx hC
          have HC := Lib.hid hC
          clear hC H6
          simp only [Act.put, List.setIfInBounds_toArray, List.set_cons_succ, List.set_cons_zero]
          go_wp2_with fail
          refine wp_region_quiet (C := CF w l f g h ((D7, pw y) :: (D5, pw x) :: [(w.heap.size, pw a)])) (by kernel_rfl) (by kernel_rfl) (HC.out.drew) ?_
          simp only
          with_reducible refine q_val (.bool false) (by kernel_rfl) (fun _ _ => by kernel_rfl) ?_
          with_reducible refine q_val (.bool true) (by kernel_rfl) (fun _ _ => by kernel_rfl) ?_
          with_reducible refine q_bin .eql 4 _ _ 4 (.bool false) (.bool true) (.bool false) rfl (by kernel_rfl) (by kernel_rfl) (by kernel_rfl) (fun _ => by kernel_rfl) (fun w' => by kernel_rfl) ?_
          with_reducible refine q_val (.bool false) (by kernel_rfl) (fun _ _ => by kernel_rfl) ?_
          with_reducible refine q_skip (by kernel_rfl) ?_
          with_reducible refine q_skip (by kernel_rfl) ?_
          with_reducible refine q_skip (by kernel_rfl) ?_
          with_reducible refine q_skip (by kernel_rfl) ?_
          with_reducible refine q_skip (by kernel_rfl) ?_
          with_reducible refine q_skip (by kernel_rfl) ?_
          with_reducible refine q_skip (by kernel_rfl) ?_
          with_reducible refine q_skip (by kernel_rfl) ?_
          with_reducible refine q_val (.bool false) (by kernel_rfl) (fun _ _ => by kernel_rfl) ?_
          with_reducible refine wpQuiet_nil ?_
          intro wx hC
          have HD := Lib.hid hC
          clear hC HC
          simp only [Act.put, List.setIfInBounds_toArray, List.set_cons_succ, List.set_cons_zero]
          go_wp2_with fail
          go_roundw
          case rel => exact ⟨k + 2, by have := HK.out.1; omega, by have := HK.out.2; omega, by go_num, Lib.hid (HD.out.less _ (fun p hp => List.mem_cons_of_mem _ (List.mem_cons_of_mem _ hp)))⟩
          case measure => have := HK.out.1; simp [intOf]; omega
        | false =>
          obtain rfl : r = 0 := HSAME.out rfl
          clear HSAME HXX HYY
          refine wp_region_quiet (C := CF w l f g h ((D7, pw y) :: (D5, pw x) :: [(w.heap.size, pw a)])) (by kernel_rfl) (by kernel_rfl) (H6.out.drew) ?_
          simp only
          with_reducible refine q_val (.bool false) (by kernel_rfl) (fun _ _ => by kernel_rfl) ?_
          with_reducible refine q_val (.bool false) (by kernel_rfl) (fun _ _ => by kernel_rfl) ?_
          with_reducible refine q_skip (by kernel_rfl) ?_
          with_reducible refine q_skip (by kernel_rfl) ?_
          with_reducible refine q_skip (by kernel_rfl) ?_
          with_reducible refine q_skip (by kernel_rfl) ?_
          with_reducible refine q_skip (by kernel_rfl) ?_
          with_reducible refine q_skip (by kernel_rfl) ?_
          with_reducible refine q_skip (by kernel_rfl) ?_
          with_reducible refine q_skip (by kernel_rfl) ?_
          with_reducible refine q_skip (by kernel_rfl) ?_
          with_reducible refine q_skip (by kernel_rfl) ?_
          with_reducible refine q_skip (by kernel_rfl) ?_
          with_reducible refine q_skip (by kernel_rfl) ?_
          with_reducible refine q_skip (by kernel_rfl) ?_
          with_reducible refine q_skip (by kernel_rfl) ?_
          with_reducible refine q_val (.bool false) (by kernel_rfl) (fun _ _ => by kernel_rfl) ?_
          with_reducible refine q_val (.bool false) (by kernel_rfl) (fun _ _ => by kernel_rfl) ?_
          with_reducible refine q_val (.bool false) (by kernel_rfl) (fun _ _ => by kernel_rfl) ?_
          with_reducible refine q_val (.bool false) (by kernel_rfl) (fun _ _ => by kernel_rfl) ?_
          with_reducible refine q_skip (by kernel_rfl) ?_
          with_reducible refine q_skip (by kernel_rfl) ?_
          with_reducible refine q_skip (by kernel_rfl) ?_
          with_reducible refine q_skip (by kernel_rfl) ?_
          with_reducible refine q_skip (by kernel_rfl) ?_
          with_reducible refine q_skip (by kernel_rfl) ?_
          with_reducible refine q_skip (by kernel_rfl) ?_
          with_reducible refine q_skip (by kernel_rfl) ?_
          with_reducible refine q_skip (by kernel_rfl) ?_
          with_reducible refine q_skip (by kernel_rfl) ?_
          with_reducible refine q_skip (by kernel_rfl) ?_
          with_reducible refine q_skip (by kernel_rfl) ?_
          with_reducible refine q_skip (by kernel_rfl) ?_
          with_reducible refine q_skip (by kernel_rfl) ?_
          with_reducible refine q_val (.bool false) (by kernel_rfl) (fun _ _ => by kernel_rfl) ?_
          with_reducible refine q_val (.bool false) (by kernel_rfl) (fun _ _ => by kernel_rfl) ?_
          with_reducible refine wpQuiet_nil ?_
          intro wx hC
          have HC := Lib.hid hC
          clear hC H6
          simp only [Act.put, List.setIfInBounds_toArray, List.set_cons_succ, List.set_cons_zero]
          go_wp2_with fail
          refine wp_region_quiet (C := CF w l f g h ((D7, pw y) :: (D5, pw x) :: [(w.heap.size, pw a)])) (by kernel_rfl) (by kernel_rfl) (HC.out.drew) ?_
          simp only
          with_reducible refine q_val (.bool false) (by kernel_rfl) (fun _ _ => by kernel_rfl) ?_
          with_reducible refine q_val (.bool false) (by kernel_rfl) (fun _ _ => by kernel_rfl) ?_
          with_reducible refine q_bin .eql 4 _ _ 4 (.bool false) (.bool false) (.bool true) rfl (by kernel_rfl) (by kernel_rfl) (by kernel_rfl) (fun _ => by kernel_rfl) (fun w' => by kernel_rfl) ?_
          with_reducible refine q_val (.bool true) (by kernel_rfl) (fun _ _ => by kernel_rfl) ?_
          with_reducible refine q_val (.slice (some ⟨l, 0, none⟩) 3 3) (by kernel_rfl) (fun _ _ => by kernel_rfl) ?_
          with_reducible refine q_val (.int .i64 k) (by kernel_rfl) (fun _ _ => by kernel_rfl) ?_
          with_reducible refine q_sem2 (Instr.indexAt 38 (.slice (some ⟨l, 0, none⟩) 3 3) (.int .i64 k)) (.pointer (some ⟨l, k, none⟩)) (by kernel_rfl) (by kernel_rfl) (fun w' _ => HIX.out w') ?_
          with_reducible refine q_load 25 (.tmp 82) (.pointer (some ⟨l, k, none⟩)) (.pointer (some ⟨F, 0, none⟩)) rfl (by kernel_rfl) (by kernel_rfl) (fun w' c => HLF.out w' c.fds) ?_
          with_reducible refine q_load 24 (.tmp 1) (.pointer (some ⟨w.heap.size, 0, none⟩)) (.agg (pw a)) rfl (by kernel_rfl) (by kernel_rfl) (fun _ c => ld_pw (c.is _ _ (by simp))) ?_
          with_reducible refine q_call 13 #[.pointer (some ⟨F, 0, none⟩), .agg (pw a)] (.agg (pw 0)) (by kernel_rfl) (fun _ => by kernel_rfl) (CF.calls HAT.out HO.out) ?_
          with_reducible refine q_val (.agg #[.int .u64 0, .int .u64 0, .int .u64 0, .int .u64 0]) (by kernel_rfl) (fun _ _ => by kernel_rfl) ?_
          with_reducible refine q_bin .neq 24 _ _ 24 (.agg (pw 0)) (.agg #[.int .u64 0, .int .u64 0, .int .u64 0, .int .u64 0]) (.bool false) rfl (by kernel_rfl) (by kernel_rfl) (by kernel_rfl) (fun _ => by kernel_rfl) (fun w' => HN3.out w') ?_
          with_reducible refine q_val (.bool false) (by kernel_rfl) (fun _ _ => by kernel_rfl) ?_
          with_reducible refine wpQuiet_nil ?_
          intro wx hC
          have HD := Lib.hid hC
          clear hC HC
          simp only [Act.put, List.setIfInBounds_toArray, List.set_cons_succ, List.set_cons_zero]
          go_wp2_with fail
          go_roundw
          case rel => exact ⟨k + 2, by have := HK.out.1; omega, by have := HK.out.2; omega, by go_num, Lib.hid (HD.out.less _ (fun p hp => List.mem_cons_of_mem _ (List.mem_cons_of_mem _ hp)))⟩
          case measure => have := HK.out.1; simp [intOf]; omega
    · have hlt' : ¬ (k : Int) < 3 := by omega
      clear hk hev
      go_wp2_with fail
      refine (flives_any _).mono ?_
      rintro e w9 ⟨rfl, hb9⟩
      have H9 := Lib.hid (H.out.old.trans (hb9.mono H.out.old.size))
      clear hb9
      go_wp2_with fail
      go_ret
      exact ⟨rfl, H9.out⟩
end Go.Proofs.Ytfgefifplmhopaa
namespace Go.Proofs.Ytfgefifplmhopaa.fieldRoots
open Go.ChangeShapes Go.WideShapes Go.ChangeAt Go.RowKit

set_option maxRecDepth 100000 in
theorem contract (H : Type) (enc : TypeId × Value → H) (W : World) (base : Nat) (args : Array Value) (ds gs : List (DataW H)) (before : List MemPlace)
    (hval : ∀ (j : Nat) t v, Try.f5.params[j]? = some t → args[j]? = some v → Value.okWide Try.prog W .any base t v)
    (hW : DataW.Whole enc Try.prog Try.f5.params.toList Rows.fieldRootsSpec.vars false W args.toList ds gs before) :
    Calls Try.prog 5 args W fun e W' => ∃ v, e = .returned v ∧ Rows.fieldRootsSpec.post enc Try.prog Try.f5 false true false false W args v W' := by
  have hW' := hW
  obtain ⟨p, q, hA0, hV, rfl, hfz, hnd⟩ := hW
  have hA : DataW.TrodAll enc Try.prog W 0 (fun _ => true) true Try.f5.params.toList args.toList ds p := hA0
  rw [Try.params5] at hA hval
  obtain ⟨v0, vs0, d0, ds0, p0, q0, hargs, rfl, rfl, h0, r0⟩ := trodAll_cons hA
  obtain ⟨rfl, rfl, rfl⟩ := trodAll_nil r0
  obtain rfl : args = #[v0] := by cases args; simp_all
  obtain ⟨rfl, rfl⟩ := trodVars_none hV
  obtain ⟨x0, rfl, X0⟩ := open_pw (hval 0 24 v0 rfl rfl) h0
  clear hA0
  refine (froots_any x0 X0 W).mono fun e W' ⟨he, hb⟩ => ?_
  subst he
  refine ⟨_, rfl, _, _, _, [], p0 ++ [], [], hW', trodAll_cons_mk (shut_bool Try.underlying4 _) trodAll_mk0, trodAll_cons_mk (Below.trod laidOutF (by kernel_rfl) (of_decide_eq_true (by kernel_rfl)) h0 hb (fun x hx => hW'.lt x (by simp [hx]))) trodAll_mk0, rfl, hb.frame _, fun h => by cases h⟩

theorem laid_met (os : Os) : laidMet Try.prog Rows.fieldRootsRow.laid ((bareWorld os).forCall (fun _ _ => 0) ⟨#[], #[.agg #[.int .u64 0, .int .u64 0, .int .u64 0, .int .u64 0]], []⟩).memory :=
  laidMet_of_run' 80 (by kernel_rfl) (by kernel_rfl)
theorem reads (os : Os) {H : Type} (enc : TypeId × Value → H) : ∃ places, DataW.whole enc Try.prog ((bareWorld os).forCall (fun _ _ => 0) ⟨#[], #[.agg #[.int .u64 0, .int .u64 0, .int .u64 0, .int .u64 0]], []⟩).memory Try.f5.params.toList Rows.fieldRootsSpec.vars false (#[.agg #[.int .u64 0, .int .u64 0, .int .u64 0, .int .u64 0]] : Array Value).toList 80 = some ([.agg [.lit (.int .u64 0), .lit (.int .u64 0), .lit (.int .u64 0), .lit (.int .u64 0)]], [], places) :=
  ⟨[], by kernel_rfl⟩

set_option maxRecDepth 100000 in
theorem lifted (os : Os) (started : os.Started) (H : Type) (enc : TypeId × Value → H) (F : Stop.Interp) :
    ReturnsInHanded {} Try.checked os 5 .any ((OpenSpec.ofChange Rows.fieldRootsSpec).preRow enc Try.prog Try.f5 Rows.fieldRootsRow.domain false Rows.fieldRootsRow.laid) (((OpenSpec.ofChange Rows.fieldRootsSpec).at F).post enc Try.prog Try.f5 false true false false) := by
  obtain ⟨places, hx⟩ := reads os enc
  refine returnsInHanded_of_row (C := Try.checked) (s := OpenSpec.ofChange Rows.fieldRootsSpec) ownF started (by kernel_rfl) Try.func5
    (witness_row_at (enc := enc) (C := Try.checked) false (bareWorld os) #[.agg #[.int .u64 0, .int .u64 0, .int .u64 0, .int .u64 0]] rfl (by kernel_rfl) (by kernel_rfl) (by kernel_rfl)
      (OpenSpec.preRow_of_cond 80 hx (by kernel_rfl) (fun k hk => by cases hk) (by kernel_rfl) (laid_met os))) ?_
  intro W base args ds gs before hval hW _ _ _ _ _ _
  exact contract H enc W base args ds gs before hval hW

theorem said : Rows.FieldRootsSaid :=
  OpenClaim.holds_of_cond 5 Try.f5 rfl rfl rfl rfl rfl rfl rfl ⟨rfl, rfl, rfl, rfl, rfl⟩ rfl rfl rfl rfl rfl (by kernel_rfl) Try.func5 (by kernel_rfl)
    (of_decide_eq_true (by kernel_rfl)) (by unfold Func.isWrapper; rw [if_neg (of_decide_eq_false (by kernel_rfl))]; exact ⟨rfl, rfl⟩)
    (fun os started H enc _ F => by rw [OpenClaim.pre_eq_preRow]; exact lifted os started H enc F)
end Go.Proofs.Ytfgefifplmhopaa.fieldRoots

/- bailiwicklaw07.FieldRing: the statement about it: whatever the input: true; the input reads as it did. CONDITIONS: none. (With it, merged: FRings · FieldRing.) -/
import Derived.Test.YtfgefifplmhopaaM8
import Derived.Test.YtfgefifplmhopaaM7
import Derived.Test.YtfgefifplmhopaaM6
namespace Go.Proofs.Ytfgefifplmhopaa
open Go.RowKit
/-- The worlds: the arguments, the field, and words in blocks. -/
structure CRg (w : World) (F m : Nat) (p q : Nat → Nat) (L : List (Nat × Array Value)) (wx : World) : Prop where
  old : Below w.heap.size w wx
  fld : FldAt wx F m
  ra : wx.heap[w.heap.size + 1]? = some (.cells (ar .u64 8 (tabF p)) 44 (0, 0))
  rb : wx.heap[w.heap.size + 1 + 1]? = some (.cells (ar .u64 8 (tabF q)) 44 (0, 0))
  rows : ∀ r ∈ L, wx.heap[r.1]? = some (.cells r.2 24 (0, 0))
theorem CRg.is {w wx : World} {F m : Nat} {p q : Nat → Nat} {L : List (Nat × Array Value)} (c : CRg w F m p q L wx) (b : Nat) (cs : Array Value) (hm : (b, cs) ∈ L) : wx.heap[b]? = some (.cells cs 24 (0, 0)) := c.rows _ hm
theorem CRg.below {w wx w' : World} {F m : Nat} {p q : Nat → Nat} {L : List (Nat × Array Value)} (c : CRg w F m p q L wx) (hb : Below wx.heap.size wx w') : CRg w F m p q L w' :=
  ⟨c.old.trans (hb.mono c.old.size), c.fld.below hb, (hb.block _ (Array.getElem?_eq_some_iff.1 c.ra).1).trans c.ra, (hb.block _ (Array.getElem?_eq_some_iff.1 c.rb).1).trans c.rb, fun r hr => (hb.block _ (Array.getElem?_eq_some_iff.1 (c.rows r hr)).1).trans (c.rows r hr)⟩
theorem CRg.drew {w wx : World} {F m : Nat} {p q : Nat → Nat} {L : List (Nat × Array Value)} (c : CRg w F m p q L wx) : CRg w F m p q L wx.drew := c.below (Below.drew (Below.refl _ _))
theorem CRg.cons {w wx : World} {F m d : Nat} {p q : Nat → Nat} {L : List (Nat × Array Value)} {cs : Array Value} (c : CRg w F m p q L wx) (hr : wx.heap[d]? = some (.cells cs 24 (0, 0))) : CRg w F m p q ((d, cs) :: L) wx := by
  refine ⟨c.old, c.fld, c.ra, c.rb, fun r hm => ?_⟩
  rcases List.mem_cons.1 hm with rfl | hm
  · exact hr
  · exact c.rows r hm
theorem CRg.calls {w : World} {F m : Nat} {p q : Nat → Nat} {L : List (Nat × Array Value)} {f : FuncId} {args : Array Value} {v : Value} (h : ∀ wx, FldAt wx F m → Calls Try.prog f args wx fun e w' => e = .returned v ∧ Below wx.heap.size wx w') : ∀ wx, CRg w F m p q L wx → Calls Try.prog f args wx fun e w' => e = .returned v ∧ CRg w F m p q L w' :=
  fun wx c => (h wx c.fld).mono fun _ _ hh => ⟨hh.1, c.below hh.2⟩
theorem ix_two (V : Nat) (w : World) : (Instr.indexAt 44 (.pointer (some ⟨V, 0, none⟩)) (.int .i64 0)).run Try.prog w = .ok (.pointer (some ⟨V, 0, none⟩)) w ∧ (Instr.indexAt 44 (.pointer (some ⟨V, 0, none⟩)) (.int .i64 1)).run Try.prog w = .ok (.pointer (some ⟨V, 4, none⟩)) w := by
  constructor <;> go_simp
theorem arr_litR (t : Array Value) : t = ((List.range t.size).map fun i => t.getD i undef).toArray := by
  apply Array.ext
  · simp
  · intro i h1 h2
    simp [h1]
/-- What the field's sums and products come to. -/
structure RingN (m x y z s pr t3 q u xz xx c : Nat) : Prop where
  s1 : (x + y) % m = s
  s2 : (y + x) % m = s
  p1 : x * y % m = pr
  p2 : y * x % m = pr
  t1 : pr * z % m = t3
  q1 : y * z % m = q
  t2 : x * q % m = t3
  u1 : s * z % m = u
  x1 : x * z % m = xz
  u2 : (xz + q) % m = u
  o1 : (s % m + (m - y % m)) % m = x % m
  xx1 : x * x % m = xx
  c1 : x ^ 3 % m = c
  c2 : x * xx % m = c
theorem ring_num (m x y z : Nat) (hm : 1 < m) : ∃ s pr t3 q u xz xx c, RingN m x y z s pr t3 q u xz xx c ∧ s < m ∧ pr < m ∧ t3 < m ∧ q < m ∧ u < m ∧ xz < m ∧ xx < m ∧ c < m := by
  have h0 : 0 < m := by omega
  refine ⟨(x + y) % m, x * y % m, x * y * z % m, y * z % m, (x + y) * z % m, x * z % m, x * x % m, x ^ 3 % m, ⟨rfl, by rw [Nat.add_comm], rfl, by rw [Nat.mul_comm], by rw [Nat.mod_mul_mod], rfl, by rw [Nat.mul_mod_mod, Nat.mul_assoc], by rw [Nat.mod_mul_mod], rfl, by rw [← Nat.add_mod, Nat.add_mul], ?_, rfl, rfl, by rw [Nat.mul_mod_mod, Nat.pow_succ, Nat.pow_two, Nat.mul_comm x (x * x)]⟩, Nat.mod_lt _ h0, Nat.mod_lt _ h0, Nat.mod_lt _ h0, Nat.mod_lt _ h0, Nat.mod_lt _ h0, Nat.mod_lt _ h0, Nat.mod_lt _ h0, Nat.mod_lt _ h0⟩
  have hy := Nat.mod_lt y h0
  rw [Nat.mod_mod, Nat.mod_add_mod]
  have e := Nat.div_add_mod y m
  rw [show x + y + (m - y % m) = x + m * (y / m + 1) by rw [Nat.mul_add, Nat.mul_one]; omega, Nat.add_mul_mod_self_left]
set_option maxRecDepth 100000 in
set_option maxHeartbeats 4000000 in
theorem fring_any (m : Nat) (hm : m < 115792089237316195423570985008687907853269984665640564039457584007913129639936) (p q : Nat → Nat) (hp : ∀ k, p k < 115792089237316195423570985008687907853269984665640564039457584007913129639936) (hq : ∀ k, q k < 115792089237316195423570985008687907853269984665640564039457584007913129639936) (w : World) : Calls Try.prog 6 #[.agg (pw m), .agg (ar .u64 8 (tabF p)), .agg (ar .u64 8 (tabF q))] w fun e w' => e = .returned (.bool true) ∧ Below w.heap.size w w' := by
  have HA := Lib.hid (show ∀ w0, ((w.alloc (.cells (pw m) 24)).alloc (.cells (ar .u64 8 (tabF p)) 44)).alloc (.cells (ar .u64 8 (tabF q)) 44) = w0 → Below w.heap.size w w0 ∧ w0.heap[w.heap.size]? = some (.cells (pw m) 24 (0, 0)) ∧ w0.heap[w.heap.size + 1]? = some (.cells (ar .u64 8 (tabF p)) 44 (0, 0)) ∧ w0.heap[w.heap.size + 1 + 1]? = some (.cells (ar .u64 8 (tabF q)) 44 (0, 0)) from by
    rintro _ rfl
    refine ⟨?_, ?_, ?_, ?_⟩
    · exact (((Below.refl _ _).alloc (Nat.le_refl _) _).alloc (by simp) _).alloc (by simp; omega) _
    · rw [Below.heap_alloc _ _ _ (by simp; omega), Below.heap_alloc _ _ _ (by simp), heap_alloc_new]
    · rw [Below.heap_alloc _ _ _ (by simp)]
      have := heap_alloc_new (w.alloc (.cells (pw m) 24)) (.cells (ar .u64 8 (tabF p)) 44)
      rwa [World.size_alloc] at this
    · have := heap_alloc_new ((w.alloc (.cells (pw m) 24)).alloc (.cells (ar .u64 8 (tabF p)) 44)) (.cells (ar .u64 8 (tabF q)) 44)
      rwa [World.size_alloc, World.size_alloc] at this)
  have HM := Lib.hid hm
  have HPQ := Lib.hid (And.intro hp hq)
  clear hp hq
  by_cases hex : m % 2 = 0 ∨ m = 1
  · have HN := Lib.hid (fun wx => fnew_none m hm hex wx)
    have HI := Lib.hid (fun wx => ris_any m hm wx)
    rw [decide_eq_false (show ¬ (m % 2 = 1 ∧ m ≠ 1) by omega)] at HI
    clear hm hex HPQ HM
    go_enter Try.func6, Try.ntmps6
    have H0 := Lib.hid (show _ from And.intro (HA.out _ rfl).1 (HA.out _ rfl).2.1)
    clear HA
    go_wp2_with (refine wpList_ld rfl 24 _ rfl (.pointer (some ⟨w.heap.size, 0, none⟩)) (.agg (pw m)) rfl (ld_pw (by exact H0.out.2)) ?_)
    refine (HN.out _).mono ?_
    rintro e w1 ⟨rfl, hb1⟩
    have H1 := Lib.hid (show Below w.heap.size w w1 ∧ w1.heap[w.heap.size]? = some (.cells (pw m) 24 (0, 0)) from ⟨H0.out.1.trans (hb1.mono H0.out.1.size), (hb1.block _ (Array.getElem?_eq_some_iff.1 H0.out.2).1).trans H0.out.2⟩)
    clear hb1 H0
    go_wp2_with (refine wpList_ld rfl 24 _ rfl (.pointer (some ⟨w.heap.size, 0, none⟩)) (.agg (pw m)) rfl (ld_pw (by exact H1.out.2)) ?_)
    refine (HI.out _).mono ?_
    rintro e w2 ⟨rfl, hb2⟩
    have H2 := Lib.hid (H1.out.1.trans (hb2.mono H1.out.1.size))
    clear hb2 H1
    go_wp2_with fail
    refine (flives_any _).mono ?_
    rintro e w9 ⟨rfl, hb9⟩
    have H9 := Lib.hid (H2.out.trans (hb9.mono H2.out.size))
    clear hb9 H2
    go_wp2_with fail
    go_ret
    exact ⟨rfl, H9.out⟩
  · have HN := Lib.hid (fun wx => fnew_some m hm (by omega) (by omega) wx)
    have HM1 := Lib.hid (show 1 < m by omega)
    clear hm hex
    go_enter Try.func6, Try.ntmps6
    have H0 := Lib.hid (HA.out _ rfl)
    clear HA
    go_wp2_with (refine wpList_ld rfl 24 _ rfl (.pointer (some ⟨w.heap.size, 0, none⟩)) (.agg (pw m)) rfl (ld_pw (by exact H0.out.2.1)) ?_)
    refine (HN.out _).mono ?_
    rintro e w1 ⟨F, rfl, hfd, -, hb1⟩
    have H1 := Lib.hid (show CRg w F m p q [] w1 from ⟨H0.out.1.trans (hb1.mono H0.out.1.size), hfd, (hb1.block _ (Array.getElem?_eq_some_iff.1 H0.out.2.2.1).1).trans H0.out.2.2.1, (hb1.block _ (Array.getElem?_eq_some_iff.1 H0.out.2.2.2).1).trans H0.out.2.2.2, fun r hr => by cases hr⟩)
    clear hfd hb1 H0 HN
    obtain ⟨x, hx⟩ : ∃ x, p 0 = x := ⟨_, rfl⟩
    obtain ⟨y, hy⟩ : ∃ y, p 1 = y := ⟨_, rfl⟩
    obtain ⟨z, hz⟩ : ∃ z, q 0 = z := ⟨_, rfl⟩
    have HXB := Lib.hid (show x < 115792089237316195423570985008687907853269984665640564039457584007913129639936 from hx ▸ HPQ.out.1 0)
    have HYB := Lib.hid (show y < 115792089237316195423570985008687907853269984665640564039457584007913129639936 from hy ▸ HPQ.out.1 1)
    have HZB := Lib.hid (show z < 115792089237316195423570985008687907853269984665640564039457584007913129639936 from hz ▸ HPQ.out.2 0)
    have HL := Lib.hid (And.intro hx (And.intro hy hz))
    clear hx hy hz HPQ
    obtain ⟨s, pr, t3, qq, u, xz, xx, c, HR, bs, bp, bt, bq, bu, bz, bx, bc⟩ := ring_num m x y z HM1.out
    have HO := Lib.hid (Nat.mod_lt x (show 0 < m from Nat.lt_trans Nat.zero_lt_one HM1.out))
    have bs := Lib.hid (Nat.lt_trans bs HM.out)
    have bp := Lib.hid (Nat.lt_trans bp HM.out)
    have bt := Lib.hid (Nat.lt_trans bt HM.out)
    have bq := Lib.hid (Nat.lt_trans bq HM.out)
    have bu := Lib.hid (Nat.lt_trans bu HM.out)
    have bz := Lib.hid (Nat.lt_trans bz HM.out)
    have bx := Lib.hid (Nat.lt_trans bx HM.out)
    have bc := Lib.hid (Nat.lt_trans bc HM.out)
    have HO := Lib.hid (Nat.lt_trans HO.out HM.out)
    have HS1 := Lib.hid (fun wx (hf : FldAt wx F m) => fadd_any F m x y HXB.out HYB.out wx hf)
    have HS2 := Lib.hid (fun wx (hf : FldAt wx F m) => fadd_any F m y x HYB.out HXB.out wx hf)
    have HP1 := Lib.hid (fun wx (hf : FldAt wx F m) => fmul_any F m x y HXB.out HYB.out wx hf)
    have HP2 := Lib.hid (fun wx (hf : FldAt wx F m) => fmul_any F m y x HYB.out HXB.out wx hf)
    have HT1 := Lib.hid (fun wx (hf : FldAt wx F m) => fmul_any F m pr z bp.out HZB.out wx hf)
    have HQ1 := Lib.hid (fun wx (hf : FldAt wx F m) => fmul_any F m y z HYB.out HZB.out wx hf)
    have HT2 := Lib.hid (fun wx (hf : FldAt wx F m) => fmul_any F m x qq HXB.out bq.out wx hf)
    have HU1 := Lib.hid (fun wx (hf : FldAt wx F m) => fmul_any F m s z bs.out HZB.out wx hf)
    have HX1 := Lib.hid (fun wx (hf : FldAt wx F m) => fmul_any F m x z HXB.out HZB.out wx hf)
    have HU2 := Lib.hid (fun wx (hf : FldAt wx F m) => fadd_any F m xz qq bz.out bq.out wx hf)
    have HO1 := Lib.hid (fun wx (hf : FldAt wx F m) => fsub_any F m s y bs.out HYB.out wx hf)
    have HO2 := Lib.hid (fun wx (hf : FldAt wx F m) => fof_any F m x HXB.out wx hf)
    have HXX := Lib.hid (fun wx (hf : FldAt wx F m) => fmul_any F m x x HXB.out HXB.out wx hf)
    have HC1 := Lib.hid (fun wx (hf : FldAt wx F m) => fexp_any F m x 3 HXB.out (by omega) wx hf)
    have HC2 := Lib.hid (fun wx (hf : FldAt wx F m) => fmul_any F m x xx HXB.out bx.out wx hf)
    have HLV := Lib.hid (fun wx (_ : FldAt wx F m) => flives_any wx)
    rw [HR.s1] at HS1
    rw [HR.s2] at HS2
    rw [HR.p1] at HP1
    rw [HR.p2] at HP2
    rw [HR.t1] at HT1
    rw [HR.q1] at HQ1
    rw [HR.t2] at HT2
    rw [HR.u1] at HU1
    rw [HR.x1] at HX1
    rw [HR.u2] at HU2
    rw [HR.o1] at HO1
    rw [HR.xx1] at HXX
    rw [HR.c1] at HC1
    rw [HR.c2] at HC2
    obtain ⟨o, ho⟩ : ∃ o, x % m = o := ⟨_, rfl⟩
    rw [ho] at HO1 HO2 HO
    have HES := Lib.hid (fun wx => (eqw_run s s bs.out bs.out wx).trans (by rw [decide_eq_true rfl]))
    have HEP := Lib.hid (fun wx => (eqw_run pr pr bp.out bp.out wx).trans (by rw [decide_eq_true rfl]))
    have HET := Lib.hid (fun wx => (eqw_run t3 t3 bt.out bt.out wx).trans (by rw [decide_eq_true rfl]))
    have HEU := Lib.hid (fun wx => (eqw_run u u bu.out bu.out wx).trans (by rw [decide_eq_true rfl]))
    have HEO := Lib.hid (fun wx => (eqw_run o o HO.out HO.out wx).trans (by rw [decide_eq_true rfl]))
    have HEC := Lib.hid (fun wx => (eqw_run c c bc.out bc.out wx).trans (by rw [decide_eq_true rfl]))
    clear HR bs bp bt bq bu bz bx bc ho HO HXB HYB HZB HM1 HM
    go_wp2_with fail
    refine region_many [.val 25 ((.pointer (some ⟨w.heap.size + 1, 0, none⟩))), .val 26 ((.agg (pw x))), .val 27 ((.pointer (some ⟨w.heap.size + 1, 4, none⟩))), .val 28 ((.agg (pw y))), .val 29 ((.pointer (some ⟨w.heap.size + 1 + 1, 0, none⟩))), .val 30 ((.agg (pw z))), .blk 9 24, .blk 10 24, .blk 11 24, .laid 9 24, .laid 10 24, .laid 11 24] [9, 10, 11] (fun p => if p = 9 then pw x else if p = 10 then pw y else pw z) (fun i => i) (by kernel_rfl) (by kernel_rfl) ⟨trivial, trivial, trivial, trivial, trivial, trivial, (by simp [Sp.ok]), (by simp [Sp.ok]), (by simp [Sp.ok]), (by simp [Sp.ok]), (by simp [Sp.ok]), (by simp [Sp.ok]), trivial⟩ (by intro p hp q hq hne D e; simp only [List.mem_cons, List.not_mem_nil, or_false] at hp; rcases hp with rfl | rfl | rfl <;> simp [undef] at e) ?_ ?_
    · refine ⟨?_, ?_, ?_, ?_, ?_, ?_, ?_, ?_, ?_, ?_, ?_, ?_, trivial⟩
      · intro ac wx hC hsz hK
        have h0 : ac.tmps.getD 4 undef = (.pointer (some ⟨w.heap.size + 1, 0, none⟩)) := hK.1 4 (by kernel_rfl)
        refine mm_sem (Instr.indexAt 44 (ac.tmps.getD 4 undef) (.int .i64 0)) ((.pointer (some ⟨w.heap.size + 1, 0, none⟩))) rfl (by kernel_rfl) (by kernel_rfl) ?_ hC (by kernel_rfl) (by rw [hsz]; exact of_decide_eq_true (by kernel_rfl)) rfl
        rw [h0]
        exact (ix_two _ wx).1
      · intro ac wx hC hsz hK
        have h0 : ac.tmps.getD 25 undef = (.pointer (some ⟨w.heap.size + 1, 0, none⟩)) := hK.2 ⟨0, .data⟩ (by simp) rfl _ rfl
        exact mm_load 24 (.tmp 25) ((.pointer (some ⟨w.heap.size + 1, 0, none⟩))) ((.agg (pw x))) rfl rfl (by kernel_rfl) h0 ((ld_two (H1.out.below hC.1).ra 0 (by omega)).trans (by rw [HL.out.1])) hC (by kernel_rfl) (by rw [hsz]; exact of_decide_eq_true (by kernel_rfl)) rfl
      · intro ac wx hC hsz hK
        have h0 : ac.tmps.getD 4 undef = (.pointer (some ⟨w.heap.size + 1, 0, none⟩)) := hK.1 4 (by kernel_rfl)
        refine mm_sem (Instr.indexAt 44 (ac.tmps.getD 4 undef) (.int .i64 1)) ((.pointer (some ⟨w.heap.size + 1, 4, none⟩))) rfl (by kernel_rfl) (by kernel_rfl) ?_ hC (by kernel_rfl) (by rw [hsz]; exact of_decide_eq_true (by kernel_rfl)) rfl
        rw [h0]
        exact (ix_two _ wx).2
      · intro ac wx hC hsz hK
        have h0 : ac.tmps.getD 27 undef = (.pointer (some ⟨w.heap.size + 1, 4, none⟩)) := hK.2 ⟨2, .data⟩ (by simp) rfl _ rfl
        exact mm_load 24 (.tmp 27) ((.pointer (some ⟨w.heap.size + 1, 4, none⟩))) ((.agg (pw y))) rfl rfl (by kernel_rfl) h0 ((ld_two (H1.out.below hC.1).ra 1 (by omega)).trans (by rw [HL.out.2.1])) hC (by kernel_rfl) (by rw [hsz]; exact of_decide_eq_true (by kernel_rfl)) rfl
      · intro ac wx hC hsz hK
        have h0 : ac.tmps.getD 5 undef = (.pointer (some ⟨w.heap.size + 1 + 1, 0, none⟩)) := hK.1 5 (by kernel_rfl)
        refine mm_sem (Instr.indexAt 44 (ac.tmps.getD 5 undef) (.int .i64 0)) ((.pointer (some ⟨w.heap.size + 1 + 1, 0, none⟩))) rfl (by kernel_rfl) (by kernel_rfl) ?_ hC (by kernel_rfl) (by rw [hsz]; exact of_decide_eq_true (by kernel_rfl)) rfl
        rw [h0]
        exact (ix_two _ wx).1
      · intro ac wx hC hsz hK
        have h0 : ac.tmps.getD 29 undef = (.pointer (some ⟨w.heap.size + 1 + 1, 0, none⟩)) := hK.2 ⟨4, .data⟩ (by simp) rfl _ rfl
        exact mm_load 24 (.tmp 29) ((.pointer (some ⟨w.heap.size + 1 + 1, 0, none⟩))) ((.agg (pw z))) rfl rfl (by kernel_rfl) h0 ((ld_two (H1.out.below hC.1).rb 0 (by omega)).trans (by rw [HL.out.2.2])) hC (by kernel_rfl) (by rw [hsz]; exact of_decide_eq_true (by kernel_rfl)) rfl
      · intro ac wx hC hsz hK
        exact mm_new 24 (#[.int .u64 0, .int .u64 0, .int .u64 0, .int .u64 0]) rfl (by kernel_rfl) (by kernel_rfl) hC (by simp [pw_size]) (by rw [hsz]; exact of_decide_eq_true (by kernel_rfl)) rfl
      · intro ac wx hC hsz hK
        exact mm_new 24 (#[.int .u64 0, .int .u64 0, .int .u64 0, .int .u64 0]) rfl (by kernel_rfl) (by kernel_rfl) hC (by simp [pw_size]) (by rw [hsz]; exact of_decide_eq_true (by kernel_rfl)) rfl
      · intro ac wx hC hsz hK
        exact mm_new 24 (#[.int .u64 0, .int .u64 0, .int .u64 0, .int .u64 0]) rfl (by kernel_rfl) (by kernel_rfl) hC (by simp [pw_size]) (by rw [hsz]; exact of_decide_eq_true (by kernel_rfl)) rfl
      · intro ac wx hC hsz hK
        have h0 : ac.tmps.getD 26 undef = (.agg (pw x)) := hK.2 ⟨1, .data⟩ (by simp) rfl _ rfl
        exact mm_store (p := 9) 24 (.tmp 9) (.tmp 26) _ rfl rfl (by kernel_rfl) rfl h0 (by simp) (hK.2 ⟨6, .data⟩ (by simp) rfl _ rfl) (fun D cs h3 h4 => store_w (h4.trans (pw_size _)) h3) hC rfl
      · intro ac wx hC hsz hK
        have h0 : ac.tmps.getD 28 undef = (.agg (pw y)) := hK.2 ⟨3, .data⟩ (by simp) rfl _ rfl
        exact mm_store (p := 10) 24 (.tmp 10) (.tmp 28) _ rfl rfl (by kernel_rfl) rfl h0 (by simp) (hK.2 ⟨7, .data⟩ (by simp) rfl _ rfl) (fun D cs h3 h4 => store_w (h4.trans (pw_size _)) h3) hC rfl
      · intro ac wx hC hsz hK
        have h0 : ac.tmps.getD 30 undef = (.agg (pw z)) := hK.2 ⟨5, .data⟩ (by simp) rfl _ rfl
        exact mm_store (p := 11) 24 (.tmp 11) (.tmp 30) _ rfl rfl (by kernel_rfl) rfl h0 (by simp) (hK.2 ⟨8, .data⟩ (by simp) rfl _ rfl) (fun D cs h3 h4 => store_w (h4.trans (pw_size _)) h3) hC rfl
    intro f1 w5 hb5 hap hf5
    obtain ⟨D9, s9, -, r9⟩ := hf5 9 _ rfl
    obtain ⟨D10, s10, -, r10⟩ := hf5 10 _ rfl
    obtain ⟨D11, s11, -, r11⟩ := hf5 11 _ rfl
    have H5 := Lib.hid ((((H1.out.below hb5).cons r11).cons r10).cons r9)
    clear hf5 hap hb5 H1 r9 r10 r11
    generalize hAct : putAll _ _ _ = G at *
    have s7 : G.tmps.getD 7 undef = .pointer (some ⟨F, 0, none⟩) := by subst hAct; kernel_rfl
    have s6 : G.tmps.getD 6 undef = .bool false := by subst hAct; kernel_rfl
    have s9' : G.tmps.getD 9 undef = .pointer (some ⟨D9, 0, none⟩) := s9
    have s10' : G.tmps.getD 10 undef = .pointer (some ⟨D10, 0, none⟩) := s10
    have s11' : G.tmps.getD 11 undef = .pointer (some ⟨D11, 0, none⟩) := s11
    have hsz : G.tmps.size = 118 := by rw [← hAct, putAll_size]; rfl
    have hdf : G.defers = [] := by subst hAct; kernel_rfl
    clear hAct s9 s10 s11 f1
    obtain ⟨u0, t0⟩ : ∃ u, G.tmps.getD 0 undef = u := ⟨_, rfl⟩
    obtain ⟨u1, t1⟩ : ∃ u, G.tmps.getD 1 undef = u := ⟨_, rfl⟩
    obtain ⟨u2, t2⟩ : ∃ u, G.tmps.getD 2 undef = u := ⟨_, rfl⟩
    obtain ⟨u3, t3⟩ : ∃ u, G.tmps.getD 3 undef = u := ⟨_, rfl⟩
    obtain ⟨u4, t4⟩ : ∃ u, G.tmps.getD 4 undef = u := ⟨_, rfl⟩
    obtain ⟨u5, t5⟩ : ∃ u, G.tmps.getD 5 undef = u := ⟨_, rfl⟩
    obtain ⟨u8, t8⟩ : ∃ u, G.tmps.getD 8 undef = u := ⟨_, rfl⟩
    obtain ⟨u12, t12⟩ : ∃ u, G.tmps.getD 12 undef = u := ⟨_, rfl⟩
    obtain ⟨u13, t13⟩ : ∃ u, G.tmps.getD 13 undef = u := ⟨_, rfl⟩
    obtain ⟨u14, t14⟩ : ∃ u, G.tmps.getD 14 undef = u := ⟨_, rfl⟩
    obtain ⟨u15, t15⟩ : ∃ u, G.tmps.getD 15 undef = u := ⟨_, rfl⟩
    obtain ⟨u16, t16⟩ : ∃ u, G.tmps.getD 16 undef = u := ⟨_, rfl⟩
    obtain ⟨u17, t17⟩ : ∃ u, G.tmps.getD 17 undef = u := ⟨_, rfl⟩
    obtain ⟨u18, t18⟩ : ∃ u, G.tmps.getD 18 undef = u := ⟨_, rfl⟩
    obtain ⟨u19, t19⟩ : ∃ u, G.tmps.getD 19 undef = u := ⟨_, rfl⟩
    obtain ⟨u20, t20⟩ : ∃ u, G.tmps.getD 20 undef = u := ⟨_, rfl⟩
    obtain ⟨u21, t21⟩ : ∃ u, G.tmps.getD 21 undef = u := ⟨_, rfl⟩
    obtain ⟨u22, t22⟩ : ∃ u, G.tmps.getD 22 undef = u := ⟨_, rfl⟩
    obtain ⟨u23, t23⟩ : ∃ u, G.tmps.getD 23 undef = u := ⟨_, rfl⟩
    obtain ⟨u24, t24⟩ : ∃ u, G.tmps.getD 24 undef = u := ⟨_, rfl⟩
    obtain ⟨u25, t25⟩ : ∃ u, G.tmps.getD 25 undef = u := ⟨_, rfl⟩
    obtain ⟨u26, t26⟩ : ∃ u, G.tmps.getD 26 undef = u := ⟨_, rfl⟩
    obtain ⟨u27, t27⟩ : ∃ u, G.tmps.getD 27 undef = u := ⟨_, rfl⟩
    obtain ⟨u28, t28⟩ : ∃ u, G.tmps.getD 28 undef = u := ⟨_, rfl⟩
    obtain ⟨u29, t29⟩ : ∃ u, G.tmps.getD 29 undef = u := ⟨_, rfl⟩
    obtain ⟨u30, t30⟩ : ∃ u, G.tmps.getD 30 undef = u := ⟨_, rfl⟩
    obtain ⟨u31, t31⟩ : ∃ u, G.tmps.getD 31 undef = u := ⟨_, rfl⟩
    obtain ⟨u32, t32⟩ : ∃ u, G.tmps.getD 32 undef = u := ⟨_, rfl⟩
    obtain ⟨u33, t33⟩ : ∃ u, G.tmps.getD 33 undef = u := ⟨_, rfl⟩
    obtain ⟨u34, t34⟩ : ∃ u, G.tmps.getD 34 undef = u := ⟨_, rfl⟩
    obtain ⟨u35, t35⟩ : ∃ u, G.tmps.getD 35 undef = u := ⟨_, rfl⟩
    obtain ⟨u36, t36⟩ : ∃ u, G.tmps.getD 36 undef = u := ⟨_, rfl⟩
    obtain ⟨u37, t37⟩ : ∃ u, G.tmps.getD 37 undef = u := ⟨_, rfl⟩
    obtain ⟨u38, t38⟩ : ∃ u, G.tmps.getD 38 undef = u := ⟨_, rfl⟩
    obtain ⟨u39, t39⟩ : ∃ u, G.tmps.getD 39 undef = u := ⟨_, rfl⟩
    obtain ⟨u40, t40⟩ : ∃ u, G.tmps.getD 40 undef = u := ⟨_, rfl⟩
    obtain ⟨u41, t41⟩ : ∃ u, G.tmps.getD 41 undef = u := ⟨_, rfl⟩
    obtain ⟨u42, t42⟩ : ∃ u, G.tmps.getD 42 undef = u := ⟨_, rfl⟩
    obtain ⟨u43, t43⟩ : ∃ u, G.tmps.getD 43 undef = u := ⟨_, rfl⟩
    obtain ⟨u44, t44⟩ : ∃ u, G.tmps.getD 44 undef = u := ⟨_, rfl⟩
    obtain ⟨u45, t45⟩ : ∃ u, G.tmps.getD 45 undef = u := ⟨_, rfl⟩
    obtain ⟨u46, t46⟩ : ∃ u, G.tmps.getD 46 undef = u := ⟨_, rfl⟩
    obtain ⟨u47, t47⟩ : ∃ u, G.tmps.getD 47 undef = u := ⟨_, rfl⟩
    obtain ⟨u48, t48⟩ : ∃ u, G.tmps.getD 48 undef = u := ⟨_, rfl⟩
    obtain ⟨u49, t49⟩ : ∃ u, G.tmps.getD 49 undef = u := ⟨_, rfl⟩
    obtain ⟨u50, t50⟩ : ∃ u, G.tmps.getD 50 undef = u := ⟨_, rfl⟩
    obtain ⟨u51, t51⟩ : ∃ u, G.tmps.getD 51 undef = u := ⟨_, rfl⟩
    obtain ⟨u52, t52⟩ : ∃ u, G.tmps.getD 52 undef = u := ⟨_, rfl⟩
    obtain ⟨u53, t53⟩ : ∃ u, G.tmps.getD 53 undef = u := ⟨_, rfl⟩
    obtain ⟨u54, t54⟩ : ∃ u, G.tmps.getD 54 undef = u := ⟨_, rfl⟩
    obtain ⟨u55, t55⟩ : ∃ u, G.tmps.getD 55 undef = u := ⟨_, rfl⟩
    obtain ⟨u56, t56⟩ : ∃ u, G.tmps.getD 56 undef = u := ⟨_, rfl⟩
    obtain ⟨u57, t57⟩ : ∃ u, G.tmps.getD 57 undef = u := ⟨_, rfl⟩
    obtain ⟨u58, t58⟩ : ∃ u, G.tmps.getD 58 undef = u := ⟨_, rfl⟩
    obtain ⟨u59, t59⟩ : ∃ u, G.tmps.getD 59 undef = u := ⟨_, rfl⟩
    obtain ⟨u60, t60⟩ : ∃ u, G.tmps.getD 60 undef = u := ⟨_, rfl⟩
    obtain ⟨u61, t61⟩ : ∃ u, G.tmps.getD 61 undef = u := ⟨_, rfl⟩
    obtain ⟨u62, t62⟩ : ∃ u, G.tmps.getD 62 undef = u := ⟨_, rfl⟩
    obtain ⟨u63, t63⟩ : ∃ u, G.tmps.getD 63 undef = u := ⟨_, rfl⟩
    obtain ⟨u64, t64⟩ : ∃ u, G.tmps.getD 64 undef = u := ⟨_, rfl⟩
    obtain ⟨u65, t65⟩ : ∃ u, G.tmps.getD 65 undef = u := ⟨_, rfl⟩
    obtain ⟨u66, t66⟩ : ∃ u, G.tmps.getD 66 undef = u := ⟨_, rfl⟩
    obtain ⟨u67, t67⟩ : ∃ u, G.tmps.getD 67 undef = u := ⟨_, rfl⟩
    obtain ⟨u68, t68⟩ : ∃ u, G.tmps.getD 68 undef = u := ⟨_, rfl⟩
    obtain ⟨u69, t69⟩ : ∃ u, G.tmps.getD 69 undef = u := ⟨_, rfl⟩
    obtain ⟨u70, t70⟩ : ∃ u, G.tmps.getD 70 undef = u := ⟨_, rfl⟩
    obtain ⟨u71, t71⟩ : ∃ u, G.tmps.getD 71 undef = u := ⟨_, rfl⟩
    obtain ⟨u72, t72⟩ : ∃ u, G.tmps.getD 72 undef = u := ⟨_, rfl⟩
    obtain ⟨u73, t73⟩ : ∃ u, G.tmps.getD 73 undef = u := ⟨_, rfl⟩
    obtain ⟨u74, t74⟩ : ∃ u, G.tmps.getD 74 undef = u := ⟨_, rfl⟩
    obtain ⟨u75, t75⟩ : ∃ u, G.tmps.getD 75 undef = u := ⟨_, rfl⟩
    obtain ⟨u76, t76⟩ : ∃ u, G.tmps.getD 76 undef = u := ⟨_, rfl⟩
    obtain ⟨u77, t77⟩ : ∃ u, G.tmps.getD 77 undef = u := ⟨_, rfl⟩
    obtain ⟨u78, t78⟩ : ∃ u, G.tmps.getD 78 undef = u := ⟨_, rfl⟩
    obtain ⟨u79, t79⟩ : ∃ u, G.tmps.getD 79 undef = u := ⟨_, rfl⟩
    obtain ⟨u80, t80⟩ : ∃ u, G.tmps.getD 80 undef = u := ⟨_, rfl⟩
    obtain ⟨u81, t81⟩ : ∃ u, G.tmps.getD 81 undef = u := ⟨_, rfl⟩
    obtain ⟨u82, t82⟩ : ∃ u, G.tmps.getD 82 undef = u := ⟨_, rfl⟩
    obtain ⟨u83, t83⟩ : ∃ u, G.tmps.getD 83 undef = u := ⟨_, rfl⟩
    obtain ⟨u84, t84⟩ : ∃ u, G.tmps.getD 84 undef = u := ⟨_, rfl⟩
    obtain ⟨u85, t85⟩ : ∃ u, G.tmps.getD 85 undef = u := ⟨_, rfl⟩
    obtain ⟨u86, t86⟩ : ∃ u, G.tmps.getD 86 undef = u := ⟨_, rfl⟩
    obtain ⟨u87, t87⟩ : ∃ u, G.tmps.getD 87 undef = u := ⟨_, rfl⟩
    obtain ⟨u88, t88⟩ : ∃ u, G.tmps.getD 88 undef = u := ⟨_, rfl⟩
    obtain ⟨u89, t89⟩ : ∃ u, G.tmps.getD 89 undef = u := ⟨_, rfl⟩
    obtain ⟨u90, t90⟩ : ∃ u, G.tmps.getD 90 undef = u := ⟨_, rfl⟩
    obtain ⟨u91, t91⟩ : ∃ u, G.tmps.getD 91 undef = u := ⟨_, rfl⟩
    obtain ⟨u92, t92⟩ : ∃ u, G.tmps.getD 92 undef = u := ⟨_, rfl⟩
    obtain ⟨u93, t93⟩ : ∃ u, G.tmps.getD 93 undef = u := ⟨_, rfl⟩
    obtain ⟨u94, t94⟩ : ∃ u, G.tmps.getD 94 undef = u := ⟨_, rfl⟩
    obtain ⟨u95, t95⟩ : ∃ u, G.tmps.getD 95 undef = u := ⟨_, rfl⟩
    obtain ⟨u96, t96⟩ : ∃ u, G.tmps.getD 96 undef = u := ⟨_, rfl⟩
    obtain ⟨u97, t97⟩ : ∃ u, G.tmps.getD 97 undef = u := ⟨_, rfl⟩
    obtain ⟨u98, t98⟩ : ∃ u, G.tmps.getD 98 undef = u := ⟨_, rfl⟩
    obtain ⟨u99, t99⟩ : ∃ u, G.tmps.getD 99 undef = u := ⟨_, rfl⟩
    obtain ⟨u100, t100⟩ : ∃ u, G.tmps.getD 100 undef = u := ⟨_, rfl⟩
    obtain ⟨u101, t101⟩ : ∃ u, G.tmps.getD 101 undef = u := ⟨_, rfl⟩
    obtain ⟨u102, t102⟩ : ∃ u, G.tmps.getD 102 undef = u := ⟨_, rfl⟩
    obtain ⟨u103, t103⟩ : ∃ u, G.tmps.getD 103 undef = u := ⟨_, rfl⟩
    obtain ⟨u104, t104⟩ : ∃ u, G.tmps.getD 104 undef = u := ⟨_, rfl⟩
    obtain ⟨u105, t105⟩ : ∃ u, G.tmps.getD 105 undef = u := ⟨_, rfl⟩
    obtain ⟨u106, t106⟩ : ∃ u, G.tmps.getD 106 undef = u := ⟨_, rfl⟩
    obtain ⟨u107, t107⟩ : ∃ u, G.tmps.getD 107 undef = u := ⟨_, rfl⟩
    obtain ⟨u108, t108⟩ : ∃ u, G.tmps.getD 108 undef = u := ⟨_, rfl⟩
    obtain ⟨u109, t109⟩ : ∃ u, G.tmps.getD 109 undef = u := ⟨_, rfl⟩
    obtain ⟨u110, t110⟩ : ∃ u, G.tmps.getD 110 undef = u := ⟨_, rfl⟩
    obtain ⟨u111, t111⟩ : ∃ u, G.tmps.getD 111 undef = u := ⟨_, rfl⟩
    obtain ⟨u112, t112⟩ : ∃ u, G.tmps.getD 112 undef = u := ⟨_, rfl⟩
    obtain ⟨u113, t113⟩ : ∃ u, G.tmps.getD 113 undef = u := ⟨_, rfl⟩
    obtain ⟨u114, t114⟩ : ∃ u, G.tmps.getD 114 undef = u := ⟨_, rfl⟩
    obtain ⟨u115, t115⟩ : ∃ u, G.tmps.getD 115 undef = u := ⟨_, rfl⟩
    obtain ⟨u116, t116⟩ : ∃ u, G.tmps.getD 116 undef = u := ⟨_, rfl⟩
    obtain ⟨u117, t117⟩ : ∃ u, G.tmps.getD 117 undef = u := ⟨_, rfl⟩
    obtain ⟨tm, df⟩ := G
    simp only at *
    have hLt := arr_litR tm
    rw [hsz] at hLt
    simp only [List.range, List.range.loop, List.map] at hLt
    rw [t0, t1, t2, t3, t4, t5, s6, s7, t8, s9', s10', s11', t12, t13, t14, t15, t16, t17, t18, t19, t20, t21, t22, t23, t24, t25, t26, t27, t28, t29, t30, t31, t32, t33, t34, t35, t36, t37, t38, t39, t40, t41, t42, t43, t44, t45, t46, t47, t48, t49, t50, t51, t52, t53, t54, t55, t56, t57, t58, t59, t60, t61, t62, t63, t64, t65, t66, t67, t68, t69, t70, t71, t72, t73, t74, t75, t76, t77, t78, t79, t80, t81, t82, t83, t84, t85, t86, t87, t88, t89, t90, t91, t92, t93, t94, t95, t96, t97, t98, t99, t100, t101, t102, t103, t104, t105, t106, t107, t108, t109, t110, t111, t112, t113, t114, t115, t116, t117] at hLt
    subst hLt hdf
    clear t0 t1 t2 t3 t4 t5 s6 s7 t8 s9' s10' s11' t12 t13 t14 t15 t16 t17 t18 t19 t20 t21 t22 t23 t24 t25 t26 t27 t28 t29 t30 t31 t32 t33 t34 t35 t36 t37 t38 t39 t40 t41 t42 t43 t44 t45 t46 t47 t48 t49 t50 t51 t52 t53 t54 t55 t56 t57 t58 t59 t60 t61 t62 t63 t64 t65 t66 t67 t68 t69 t70 t71 t72 t73 t74 t75 t76 t77 t78 t79 t80 t81 t82 t83 t84 t85 t86 t87 t88 t89 t90 t91 t92 t93 t94 t95 t96 t97 t98 t99 t100 t101 t102 t103 t104 t105 t106 t107 t108 t109 t110 t111 t112 t113 t114 t115 t116 t117 hsz
    go_wp2_with fail
    refine wp_region_quiet (C := CRg w F m p q [(D9, pw x), (D10, pw y), (D11, pw z)]) (by kernel_rfl) (by kernel_rfl) (H5.out.drew) ?_
    simp only [List.append_eq, List.cons_append, List.nil_append]
    with_reducible refine q_val (.pointer (some ⟨F, 0, none⟩)) (by kernel_rfl) (fun _ _ => by kernel_rfl) ?_
    with_reducible refine q_load 24 (.tmp 9) (.pointer (some ⟨D9, 0, none⟩)) (.agg (pw x)) rfl (by kernel_rfl) (by kernel_rfl) (fun _ c => ld_pw (c.is _ _ (by simp))) ?_
    with_reducible refine q_load 24 (.tmp 10) (.pointer (some ⟨D10, 0, none⟩)) (.agg (pw y)) rfl (by kernel_rfl) (by kernel_rfl) (fun _ c => ld_pw (c.is _ _ (by simp))) ?_
    with_reducible refine q_call 14 #[.pointer (some ⟨F, 0, none⟩), .agg (pw x), .agg (pw y)] (.agg (pw s)) (by kernel_rfl) (fun _ => by kernel_rfl) (CRg.calls HS1.out) ?_
    with_reducible refine q_val (.pointer (some ⟨F, 0, none⟩)) (by kernel_rfl) (fun _ _ => by kernel_rfl) ?_
    with_reducible refine q_load 24 (.tmp 10) (.pointer (some ⟨D10, 0, none⟩)) (.agg (pw y)) rfl (by kernel_rfl) (by kernel_rfl) (fun _ c => ld_pw (c.is _ _ (by simp))) ?_
    with_reducible refine q_load 24 (.tmp 9) (.pointer (some ⟨D9, 0, none⟩)) (.agg (pw x)) rfl (by kernel_rfl) (by kernel_rfl) (fun _ c => ld_pw (c.is _ _ (by simp))) ?_
    with_reducible refine q_call 14 #[.pointer (some ⟨F, 0, none⟩), .agg (pw y), .agg (pw x)] (.agg (pw s)) (by kernel_rfl) (fun _ => by kernel_rfl) (CRg.calls HS2.out) ?_
    with_reducible refine q_bin .eql 24 _ _ 24 (.agg (pw s)) (.agg (pw s)) (.bool true) rfl (by kernel_rfl) (by kernel_rfl) (by kernel_rfl) (fun _ => by kernel_rfl) (fun w' => HES.out w') ?_
    with_reducible refine q_val (.bool true) (by kernel_rfl) (fun _ _ => by kernel_rfl) ?_
    with_reducible refine q_val (.pointer (some ⟨F, 0, none⟩)) (by kernel_rfl) (fun _ _ => by kernel_rfl) ?_
    with_reducible refine q_load 24 (.tmp 9) (.pointer (some ⟨D9, 0, none⟩)) (.agg (pw x)) rfl (by kernel_rfl) (by kernel_rfl) (fun _ c => ld_pw (c.is _ _ (by simp))) ?_
    with_reducible refine q_load 24 (.tmp 10) (.pointer (some ⟨D10, 0, none⟩)) (.agg (pw y)) rfl (by kernel_rfl) (by kernel_rfl) (fun _ c => ld_pw (c.is _ _ (by simp))) ?_
    with_reducible refine q_call 15 #[.pointer (some ⟨F, 0, none⟩), .agg (pw x), .agg (pw y)] (.agg (pw pr)) (by kernel_rfl) (fun _ => by kernel_rfl) (CRg.calls HP1.out) ?_
    with_reducible refine q_val (.pointer (some ⟨F, 0, none⟩)) (by kernel_rfl) (fun _ _ => by kernel_rfl) ?_
    with_reducible refine q_load 24 (.tmp 10) (.pointer (some ⟨D10, 0, none⟩)) (.agg (pw y)) rfl (by kernel_rfl) (by kernel_rfl) (fun _ c => ld_pw (c.is _ _ (by simp))) ?_
    with_reducible refine q_load 24 (.tmp 9) (.pointer (some ⟨D9, 0, none⟩)) (.agg (pw x)) rfl (by kernel_rfl) (by kernel_rfl) (fun _ c => ld_pw (c.is _ _ (by simp))) ?_
    with_reducible refine q_call 15 #[.pointer (some ⟨F, 0, none⟩), .agg (pw y), .agg (pw x)] (.agg (pw pr)) (by kernel_rfl) (fun _ => by kernel_rfl) (CRg.calls HP2.out) ?_
    with_reducible refine q_bin .eql 24 _ _ 24 (.agg (pw pr)) (.agg (pw pr)) (.bool true) rfl (by kernel_rfl) (by kernel_rfl) (by kernel_rfl) (fun _ => by kernel_rfl) (fun w' => HEP.out w') ?_
    with_reducible refine q_val (.bool true) (by kernel_rfl) (fun _ _ => by kernel_rfl) ?_
    with_reducible refine q_val (.bool true) (by kernel_rfl) (fun _ _ => by kernel_rfl) ?_
    with_reducible refine q_val (.pointer (some ⟨F, 0, none⟩)) (by kernel_rfl) (fun _ _ => by kernel_rfl) ?_
    with_reducible refine q_val (.pointer (some ⟨F, 0, none⟩)) (by kernel_rfl) (fun _ _ => by kernel_rfl) ?_
    with_reducible refine q_load 24 (.tmp 9) (.pointer (some ⟨D9, 0, none⟩)) (.agg (pw x)) rfl (by kernel_rfl) (by kernel_rfl) (fun _ c => ld_pw (c.is _ _ (by simp))) ?_
    with_reducible refine q_load 24 (.tmp 10) (.pointer (some ⟨D10, 0, none⟩)) (.agg (pw y)) rfl (by kernel_rfl) (by kernel_rfl) (fun _ c => ld_pw (c.is _ _ (by simp))) ?_
    with_reducible refine q_call 15 #[.pointer (some ⟨F, 0, none⟩), .agg (pw x), .agg (pw y)] (.agg (pw pr)) (by kernel_rfl) (fun _ => by kernel_rfl) (CRg.calls HP1.out) ?_
    with_reducible refine q_load 24 (.tmp 11) (.pointer (some ⟨D11, 0, none⟩)) (.agg (pw z)) rfl (by kernel_rfl) (by kernel_rfl) (fun _ c => ld_pw (c.is _ _ (by simp))) ?_
    with_reducible refine q_call 15 #[.pointer (some ⟨F, 0, none⟩), .agg (pw pr), .agg (pw z)] (.agg (pw t3)) (by kernel_rfl) (fun _ => by kernel_rfl) (CRg.calls HT1.out) ?_
    with_reducible refine q_val (.pointer (some ⟨F, 0, none⟩)) (by kernel_rfl) (fun _ _ => by kernel_rfl) ?_
    with_reducible refine q_load 24 (.tmp 9) (.pointer (some ⟨D9, 0, none⟩)) (.agg (pw x)) rfl (by kernel_rfl) (by kernel_rfl) (fun _ c => ld_pw (c.is _ _ (by simp))) ?_
    with_reducible refine q_val (.pointer (some ⟨F, 0, none⟩)) (by kernel_rfl) (fun _ _ => by kernel_rfl) ?_
    with_reducible refine q_load 24 (.tmp 10) (.pointer (some ⟨D10, 0, none⟩)) (.agg (pw y)) rfl (by kernel_rfl) (by kernel_rfl) (fun _ c => ld_pw (c.is _ _ (by simp))) ?_
    with_reducible refine q_load 24 (.tmp 11) (.pointer (some ⟨D11, 0, none⟩)) (.agg (pw z)) rfl (by kernel_rfl) (by kernel_rfl) (fun _ c => ld_pw (c.is _ _ (by simp))) ?_
    with_reducible refine q_call 15 #[.pointer (some ⟨F, 0, none⟩), .agg (pw y), .agg (pw z)] (.agg (pw qq)) (by kernel_rfl) (fun _ => by kernel_rfl) (CRg.calls HQ1.out) ?_
    with_reducible refine q_call 15 #[.pointer (some ⟨F, 0, none⟩), .agg (pw x), .agg (pw qq)] (.agg (pw t3)) (by kernel_rfl) (fun _ => by kernel_rfl) (CRg.calls HT2.out) ?_
    with_reducible refine q_bin .eql 24 _ _ 24 (.agg (pw t3)) (.agg (pw t3)) (.bool true) rfl (by kernel_rfl) (by kernel_rfl) (by kernel_rfl) (fun _ => by kernel_rfl) (fun w' => HET.out w') ?_
    with_reducible refine q_val (.bool true) (by kernel_rfl) (fun _ _ => by kernel_rfl) ?_
    with_reducible refine q_val (.bool true) (by kernel_rfl) (fun _ _ => by kernel_rfl) ?_
    with_reducible refine q_val (.pointer (some ⟨F, 0, none⟩)) (by kernel_rfl) (fun _ _ => by kernel_rfl) ?_
    with_reducible refine q_val (.pointer (some ⟨F, 0, none⟩)) (by kernel_rfl) (fun _ _ => by kernel_rfl) ?_
    with_reducible refine q_load 24 (.tmp 9) (.pointer (some ⟨D9, 0, none⟩)) (.agg (pw x)) rfl (by kernel_rfl) (by kernel_rfl) (fun _ c => ld_pw (c.is _ _ (by simp))) ?_
    with_reducible refine q_load 24 (.tmp 10) (.pointer (some ⟨D10, 0, none⟩)) (.agg (pw y)) rfl (by kernel_rfl) (by kernel_rfl) (fun _ c => ld_pw (c.is _ _ (by simp))) ?_
    with_reducible refine q_call 14 #[.pointer (some ⟨F, 0, none⟩), .agg (pw x), .agg (pw y)] (.agg (pw s)) (by kernel_rfl) (fun _ => by kernel_rfl) (CRg.calls HS1.out) ?_
    with_reducible refine q_load 24 (.tmp 11) (.pointer (some ⟨D11, 0, none⟩)) (.agg (pw z)) rfl (by kernel_rfl) (by kernel_rfl) (fun _ c => ld_pw (c.is _ _ (by simp))) ?_
    with_reducible refine q_call 15 #[.pointer (some ⟨F, 0, none⟩), .agg (pw s), .agg (pw z)] (.agg (pw u)) (by kernel_rfl) (fun _ => by kernel_rfl) (CRg.calls HU1.out) ?_
    with_reducible refine q_val (.pointer (some ⟨F, 0, none⟩)) (by kernel_rfl) (fun _ _ => by kernel_rfl) ?_
    with_reducible refine q_val (.pointer (some ⟨F, 0, none⟩)) (by kernel_rfl) (fun _ _ => by kernel_rfl) ?_
    with_reducible refine q_load 24 (.tmp 9) (.pointer (some ⟨D9, 0, none⟩)) (.agg (pw x)) rfl (by kernel_rfl) (by kernel_rfl) (fun _ c => ld_pw (c.is _ _ (by simp))) ?_
    with_reducible refine q_load 24 (.tmp 11) (.pointer (some ⟨D11, 0, none⟩)) (.agg (pw z)) rfl (by kernel_rfl) (by kernel_rfl) (fun _ c => ld_pw (c.is _ _ (by simp))) ?_
    with_reducible refine q_call 15 #[.pointer (some ⟨F, 0, none⟩), .agg (pw x), .agg (pw z)] (.agg (pw xz)) (by kernel_rfl) (fun _ => by kernel_rfl) (CRg.calls HX1.out) ?_
    with_reducible refine q_val (.pointer (some ⟨F, 0, none⟩)) (by kernel_rfl) (fun _ _ => by kernel_rfl) ?_
    with_reducible refine q_load 24 (.tmp 10) (.pointer (some ⟨D10, 0, none⟩)) (.agg (pw y)) rfl (by kernel_rfl) (by kernel_rfl) (fun _ c => ld_pw (c.is _ _ (by simp))) ?_
    with_reducible refine q_load 24 (.tmp 11) (.pointer (some ⟨D11, 0, none⟩)) (.agg (pw z)) rfl (by kernel_rfl) (by kernel_rfl) (fun _ c => ld_pw (c.is _ _ (by simp))) ?_
    with_reducible refine q_call 15 #[.pointer (some ⟨F, 0, none⟩), .agg (pw y), .agg (pw z)] (.agg (pw qq)) (by kernel_rfl) (fun _ => by kernel_rfl) (CRg.calls HQ1.out) ?_
    with_reducible refine q_call 14 #[.pointer (some ⟨F, 0, none⟩), .agg (pw xz), .agg (pw qq)] (.agg (pw u)) (by kernel_rfl) (fun _ => by kernel_rfl) (CRg.calls HU2.out) ?_
    with_reducible refine q_bin .eql 24 _ _ 24 (.agg (pw u)) (.agg (pw u)) (.bool true) rfl (by kernel_rfl) (by kernel_rfl) (by kernel_rfl) (fun _ => by kernel_rfl) (fun w' => HEU.out w') ?_
    with_reducible refine q_val (.bool true) (by kernel_rfl) (fun _ _ => by kernel_rfl) ?_
    with_reducible refine q_val (.bool true) (by kernel_rfl) (fun _ _ => by kernel_rfl) ?_
    with_reducible refine q_val (.pointer (some ⟨F, 0, none⟩)) (by kernel_rfl) (fun _ _ => by kernel_rfl) ?_
    with_reducible refine q_val (.pointer (some ⟨F, 0, none⟩)) (by kernel_rfl) (fun _ _ => by kernel_rfl) ?_
    with_reducible refine q_load 24 (.tmp 9) (.pointer (some ⟨D9, 0, none⟩)) (.agg (pw x)) rfl (by kernel_rfl) (by kernel_rfl) (fun _ c => ld_pw (c.is _ _ (by simp))) ?_
    with_reducible refine q_load 24 (.tmp 10) (.pointer (some ⟨D10, 0, none⟩)) (.agg (pw y)) rfl (by kernel_rfl) (by kernel_rfl) (fun _ c => ld_pw (c.is _ _ (by simp))) ?_
    with_reducible refine q_call 14 #[.pointer (some ⟨F, 0, none⟩), .agg (pw x), .agg (pw y)] (.agg (pw s)) (by kernel_rfl) (fun _ => by kernel_rfl) (CRg.calls HS1.out) ?_
    with_reducible refine q_load 24 (.tmp 10) (.pointer (some ⟨D10, 0, none⟩)) (.agg (pw y)) rfl (by kernel_rfl) (by kernel_rfl) (fun _ c => ld_pw (c.is _ _ (by simp))) ?_
    with_reducible refine q_call 20 #[.pointer (some ⟨F, 0, none⟩), .agg (pw s), .agg (pw y)] (.agg (pw o)) (by kernel_rfl) (fun _ => by kernel_rfl) (CRg.calls HO1.out) ?_
    with_reducible refine q_val (.pointer (some ⟨F, 0, none⟩)) (by kernel_rfl) (fun _ _ => by kernel_rfl) ?_
    with_reducible refine q_load 24 (.tmp 9) (.pointer (some ⟨D9, 0, none⟩)) (.agg (pw x)) rfl (by kernel_rfl) (by kernel_rfl) (fun _ c => ld_pw (c.is _ _ (by simp))) ?_
    with_reducible refine q_call 13 #[.pointer (some ⟨F, 0, none⟩), .agg (pw x)] (.agg (pw o)) (by kernel_rfl) (fun _ => by kernel_rfl) (CRg.calls HO2.out) ?_
    with_reducible refine q_bin .eql 24 _ _ 24 (.agg (pw o)) (.agg (pw o)) (.bool true) rfl (by kernel_rfl) (by kernel_rfl) (by kernel_rfl) (fun _ => by kernel_rfl) (fun w' => HEO.out w') ?_
    with_reducible refine q_val (.bool true) (by kernel_rfl) (fun _ _ => by kernel_rfl) ?_
    with_reducible refine q_val (.bool true) (by kernel_rfl) (fun _ _ => by kernel_rfl) ?_
    with_reducible refine q_val (.pointer (some ⟨F, 0, none⟩)) (by kernel_rfl) (fun _ _ => by kernel_rfl) ?_
    with_reducible refine q_load 24 (.tmp 9) (.pointer (some ⟨D9, 0, none⟩)) (.agg (pw x)) rfl (by kernel_rfl) (by kernel_rfl) (fun _ c => ld_pw (c.is _ _ (by simp))) ?_
    with_reducible refine q_val (.agg (pw 3)) (by kernel_rfl) (fun _ _ => by kernel_rfl) ?_
    with_reducible refine q_call 29 #[.pointer (some ⟨F, 0, none⟩), .agg (pw x), .agg (pw 3)] (.agg (pw c)) (by kernel_rfl) (fun _ => by kernel_rfl) (CRg.calls HC1.out) ?_
    with_reducible refine q_val (.pointer (some ⟨F, 0, none⟩)) (by kernel_rfl) (fun _ _ => by kernel_rfl) ?_
    with_reducible refine q_load 24 (.tmp 9) (.pointer (some ⟨D9, 0, none⟩)) (.agg (pw x)) rfl (by kernel_rfl) (by kernel_rfl) (fun _ c => ld_pw (c.is _ _ (by simp))) ?_
    with_reducible refine q_val (.pointer (some ⟨F, 0, none⟩)) (by kernel_rfl) (fun _ _ => by kernel_rfl) ?_
    with_reducible refine q_load 24 (.tmp 9) (.pointer (some ⟨D9, 0, none⟩)) (.agg (pw x)) rfl (by kernel_rfl) (by kernel_rfl) (fun _ c => ld_pw (c.is _ _ (by simp))) ?_
    with_reducible refine q_load 24 (.tmp 9) (.pointer (some ⟨D9, 0, none⟩)) (.agg (pw x)) rfl (by kernel_rfl) (by kernel_rfl) (fun _ c => ld_pw (c.is _ _ (by simp))) ?_
    with_reducible refine q_call 15 #[.pointer (some ⟨F, 0, none⟩), .agg (pw x), .agg (pw x)] (.agg (pw xx)) (by kernel_rfl) (fun _ => by kernel_rfl) (CRg.calls HXX.out) ?_
    with_reducible refine q_call 15 #[.pointer (some ⟨F, 0, none⟩), .agg (pw x), .agg (pw xx)] (.agg (pw c)) (by kernel_rfl) (fun _ => by kernel_rfl) (CRg.calls HC2.out) ?_
    with_reducible refine q_bin .eql 24 _ _ 24 (.agg (pw c)) (.agg (pw c)) (.bool true) rfl (by kernel_rfl) (by kernel_rfl) (by kernel_rfl) (fun _ => by kernel_rfl) (fun w' => HEC.out w') ?_
    with_reducible refine q_val (.bool true) (by kernel_rfl) (fun _ _ => by kernel_rfl) ?_
    with_reducible refine q_val (.bool true) (by kernel_rfl) (fun _ _ => by kernel_rfl) ?_
    with_reducible refine q_call 10 #[] (.bool true) (by kernel_rfl) (fun _ => by kernel_rfl) (CRg.calls HLV.out) ?_
    with_reducible refine q_val (.bool true) (by kernel_rfl) (fun _ _ => by kernel_rfl) ?_
    with_reducible refine q_val (.bool true) (by kernel_rfl) (fun _ _ => by kernel_rfl) ?_
    with_reducible refine wpQuiet_nil ?_
    intro wx hC
    have HC := Lib.hid hC
    clear hC H5
    simp only [Act.put, List.setIfInBounds_toArray, List.set_cons_succ, List.set_cons_zero]
    go_wp2_with fail
    go_ret
    exact ⟨rfl, HC.out.old⟩
end Go.Proofs.Ytfgefifplmhopaa
namespace Go.Proofs.Ytfgefifplmhopaa.fieldRing
open Go.ChangeShapes Go.WideShapes Go.ChangeAt Go.RowKit

set_option maxRecDepth 100000 in
theorem contract (H : Type) (enc : TypeId × Value → H) (W : World) (base : Nat) (args : Array Value) (ds gs : List (DataW H)) (before : List MemPlace)
    (hval : ∀ (j : Nat) t v, Try.f6.params[j]? = some t → args[j]? = some v → Value.okWide Try.prog W .any base t v)
    (hW : DataW.Whole enc Try.prog Try.f6.params.toList Rows.fieldRingSpec.vars false W args.toList ds gs before) :
    Calls Try.prog 6 args W fun e W' => ∃ v, e = .returned v ∧ Rows.fieldRingSpec.post enc Try.prog Try.f6 false true false false W args v W' := by
  have hW' := hW
  obtain ⟨p, q, hA0, hV, rfl, hfz, hnd⟩ := hW
  have hA : DataW.TrodAll enc Try.prog W 0 (fun _ => true) true Try.f6.params.toList args.toList ds p := hA0
  rw [Try.params6] at hA hval
  obtain ⟨v0, vs0, d0, ds0, p0, q0, hargs, rfl, rfl, h0, r0⟩ := trodAll_cons hA
  obtain ⟨v1, vs1, d1, ds1, p1, q1, rfl, rfl, rfl, h1, r1⟩ := trodAll_cons r0
  obtain ⟨v2, vs2, d2, ds2, p2, q2, rfl, rfl, rfl, h2, r2⟩ := trodAll_cons r1
  obtain ⟨rfl, rfl, rfl⟩ := trodAll_nil r2
  obtain rfl : args = #[v0, v1, v2] := by cases args; simp_all
  obtain ⟨rfl, rfl⟩ := trodVars_none hV
  obtain ⟨x0, rfl, X0⟩ := open_pw (hval 0 24 v0 rfl rfl) h0
  obtain ⟨x1, rfl, X1⟩ := open_two (hval 1 44 v1 rfl rfl) h1
  obtain ⟨x2, rfl, X2⟩ := open_two (hval 2 44 v2 rfl rfl) h2
  clear hA0
  refine (fring_any x0 X0 x1 x2 X1 X2 W).mono fun e W' ⟨he, hb⟩ => ?_
  subst he
  refine ⟨_, rfl, _, _, _, [], p0 ++ (p1 ++ (p2 ++ [])), [], hW', trodAll_cons_mk (shut_bool Try.underlying4 _) trodAll_mk0, trodAll_cons_mk (Below.trod laidOutF (by kernel_rfl) (of_decide_eq_true (by kernel_rfl)) h0 hb (fun x hx => hW'.lt x (by simp [hx]))) (trodAll_cons_mk (Below.trod laidOutF (by kernel_rfl) (of_decide_eq_true (by kernel_rfl)) h1 hb (fun x hx => hW'.lt x (by simp [hx]))) (trodAll_cons_mk (Below.trod laidOutF (by kernel_rfl) (of_decide_eq_true (by kernel_rfl)) h2 hb (fun x hx => hW'.lt x (by simp [hx]))) trodAll_mk0)), rfl, hb.frame _, fun h => by cases h⟩

theorem laid_met (os : Os) : laidMet Try.prog Rows.fieldRingRow.laid ((bareWorld os).forCall (fun _ _ => 0) ⟨#[], #[.agg #[.int .u64 0, .int .u64 0, .int .u64 0, .int .u64 0], .agg #[.int .u64 0, .int .u64 0, .int .u64 0, .int .u64 0, .int .u64 0, .int .u64 0, .int .u64 0, .int .u64 0], .agg #[.int .u64 0, .int .u64 0, .int .u64 0, .int .u64 0, .int .u64 0, .int .u64 0, .int .u64 0, .int .u64 0]], []⟩).memory :=
  laidMet_of_run' 80 (by kernel_rfl) (by kernel_rfl)
theorem reads (os : Os) {H : Type} (enc : TypeId × Value → H) : ∃ places, DataW.whole enc Try.prog ((bareWorld os).forCall (fun _ _ => 0) ⟨#[], #[.agg #[.int .u64 0, .int .u64 0, .int .u64 0, .int .u64 0], .agg #[.int .u64 0, .int .u64 0, .int .u64 0, .int .u64 0, .int .u64 0, .int .u64 0, .int .u64 0, .int .u64 0], .agg #[.int .u64 0, .int .u64 0, .int .u64 0, .int .u64 0, .int .u64 0, .int .u64 0, .int .u64 0, .int .u64 0]], []⟩).memory Try.f6.params.toList Rows.fieldRingSpec.vars false (#[.agg #[.int .u64 0, .int .u64 0, .int .u64 0, .int .u64 0], .agg #[.int .u64 0, .int .u64 0, .int .u64 0, .int .u64 0, .int .u64 0, .int .u64 0, .int .u64 0, .int .u64 0], .agg #[.int .u64 0, .int .u64 0, .int .u64 0, .int .u64 0, .int .u64 0, .int .u64 0, .int .u64 0, .int .u64 0]] : Array Value).toList 80 = some ([.agg [.lit (.int .u64 0), .lit (.int .u64 0), .lit (.int .u64 0), .lit (.int .u64 0)], .agg [.agg [.lit (.int .u64 0), .lit (.int .u64 0), .lit (.int .u64 0), .lit (.int .u64 0)], .agg [.lit (.int .u64 0), .lit (.int .u64 0), .lit (.int .u64 0), .lit (.int .u64 0)]], .agg [.agg [.lit (.int .u64 0), .lit (.int .u64 0), .lit (.int .u64 0), .lit (.int .u64 0)], .agg [.lit (.int .u64 0), .lit (.int .u64 0), .lit (.int .u64 0), .lit (.int .u64 0)]]], [], places) :=
  ⟨[], by kernel_rfl⟩

set_option maxRecDepth 100000 in
theorem lifted (os : Os) (started : os.Started) (H : Type) (enc : TypeId × Value → H) (F : Stop.Interp) :
    ReturnsInHanded {} Try.checked os 6 .any ((OpenSpec.ofChange Rows.fieldRingSpec).preRow enc Try.prog Try.f6 Rows.fieldRingRow.domain false Rows.fieldRingRow.laid) (((OpenSpec.ofChange Rows.fieldRingSpec).at F).post enc Try.prog Try.f6 false true false false) := by
  obtain ⟨places, hx⟩ := reads os enc
  refine returnsInHanded_of_row (C := Try.checked) (s := OpenSpec.ofChange Rows.fieldRingSpec) ownF started (by kernel_rfl) Try.func6
    (witness_row_at (enc := enc) (C := Try.checked) false (bareWorld os) #[.agg #[.int .u64 0, .int .u64 0, .int .u64 0, .int .u64 0], .agg #[.int .u64 0, .int .u64 0, .int .u64 0, .int .u64 0, .int .u64 0, .int .u64 0, .int .u64 0, .int .u64 0], .agg #[.int .u64 0, .int .u64 0, .int .u64 0, .int .u64 0, .int .u64 0, .int .u64 0, .int .u64 0, .int .u64 0]] rfl (by kernel_rfl) (by kernel_rfl) (by kernel_rfl)
      (OpenSpec.preRow_of_cond 80 hx (by kernel_rfl) (fun k hk => by cases hk) (by kernel_rfl) (laid_met os))) ?_
  intro W base args ds gs before hval hW _ _ _ _ _ _
  exact contract H enc W base args ds gs before hval hW

theorem said : Rows.FieldRingSaid :=
  OpenClaim.holds_of_cond 6 Try.f6 rfl rfl rfl rfl rfl rfl rfl ⟨rfl, rfl, rfl, rfl, rfl⟩ rfl rfl rfl rfl rfl (by kernel_rfl) Try.func6 (by kernel_rfl)
    (of_decide_eq_true (by kernel_rfl)) (by unfold Func.isWrapper; rw [if_neg (of_decide_eq_false (by kernel_rfl))]; exact ⟨rfl, rfl⟩)
    (fun os started H enc _ F => by rw [OpenClaim.pre_eq_preRow]; exact lifted os started H enc F)
end Go.Proofs.Ytfgefifplmhopaa.fieldRing

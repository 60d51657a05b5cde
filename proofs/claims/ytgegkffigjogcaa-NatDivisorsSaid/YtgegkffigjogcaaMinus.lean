/- What bailiwickref01.minus comes to: the difference of digits, of which the first are not less. -/
import Derived.Test.YtgegkffigjogcaaSum
import Derived.Test.YtgegkffigjogcaaLess
namespace Go.Proofs.Ytgegkffigjogcaa
open Go.RowKit

def MinRel (w : World) (_n m k c : Nat) (da db : Nat → Nat) (v : Value) (wr : World) : Prop :=
  c ≤ 1 ∧ ∃ ns : Nat → Nat, wr.ownsRow w.heap.size 59 1 v k (dl ns k) ∧ (∀ j, j < k → ns j < 65536) ∧ vd ns k + vd (pad db m) k = vd da k + 65536 ^ k * c ∧ Below w.heap.size w wr ∧ w.heap.size < wr.heap.size
theorem min_step {P N B A c d bk ak c' : Nat} (h : N + B = A + P * c) (h1 : d + (c + bk) = ak + 65536 * c') : N + P * d + (B + P * bk) = A + P * ak + P * 65536 * c' := by
  have e := congrArg (P * ·) h1
  simp only [Nat.mul_add] at e
  rw [← Nat.mul_assoc] at e
  omega
theorem min_next {w wr w1 : World} {n m k c c' y : Nat} {da db ns : Nat → Nat} {v v' X : Value} (hown : wr.ownsRow w.heap.size 59 1 v k (dl ns k)) (hns : ∀ j, j < k → ns j < 65536)
    (hv : vd ns k + vd (pad db m) k = vd da k + 65536 ^ k * c) (hb : Below w.heap.size w wr) (hz : w.heap.size < wr.heap.size) (hy : y < 65536) (hc' : c' ≤ 1) (hx : y + (c + pad db m k) = da k + 65536 * c')
    (hown' : w1.ownsRow w.heap.size 59 1 v' (k + 1) (dl ns k ++ [.int .u64 (y : Nat)])) (hgrow : (wr.alloc (.cells #[X] 59)).grownBy w1 v.ownBlock) :
    MinRel w n m (k + 1) c' da db v' w1 := by
  obtain ⟨ho, hb'⟩ := push_rel hown hb (by omega) hown' hgrow
  have hs := hgrow.size
  simp at hs
  refine ⟨hc', upd ns k y, ho, upd_lt hns hy, ?_, hb', by omega⟩
  rw [vd_upd, Nat.pow_succ]
  exact min_step hv hx
theorem min_end {P N B A c T : Nat} (h : N + B = A + P * c) (hc : c ≤ 1) (hN : N < P) (hT : T ≤ A) (hB : B ≤ T) : c = 0 := by
  have : c = 0 ∨ c = 1 := by omega
  rcases this with h0 | h0
  · exact h0
  · subst h0; omega
theorem vd_mono (d : Nat → Nat) (a : Nat) : ∀ e, vd d a ≤ vd d (a + e)
  | 0 => Nat.le_refl _
  | e + 1 => Nat.le_trans (vd_mono d a e) (Nat.le_add_right _ _)
theorem pad_le (db : Nat → Nat) (m : Nat) : ∀ k, vd (pad db m) k ≤ vd db m
  | 0 => Nat.zero_le _
  | k + 1 => by
    by_cases h : k + 1 ≤ m
    · rw [vd_congr (e := db) (fun j hj => by simp only [pad]; rw [if_pos (by omega)])]
      have h2 := vd_mono db (k + 1) (m - (k + 1))
      rwa [show k + 1 + (m - (k + 1)) = m by omega] at h2
    · rw [vd_pad _ _ _ (by omega)]; exact Nat.le_refl _
theorem vd_full {d : Nat → Nat} : ∀ n m, (∀ j, n ≤ j → j < m → d j = 0) → n ≤ m → vd d m = vd d n
  | n, 0, _, h => by rw [show n = 0 by omega]
  | n, m + 1, h0, h => by
    by_cases e : n = m + 1
    · rw [e]
    · rw [vd, vd_full n m (fun j h1 h2 => h0 j h1 (by omega)) (by omega), h0 m (by omega) (by omega)]; omega
theorem vd_small {d : Nat → Nat} {n m : Nat} (h : vd d m < 65536 ^ n) : ∀ j, n ≤ j → j < m → d j = 0 := fun j h1 h2 => by
  have h3 := vd_mono d (j + 1) (m - (j + 1))
  rw [show j + 1 + (m - (j + 1)) = m by omega, vd] at h3
  have h4 : 65536 ^ n ≤ 65536 ^ j := Nat.pow_le_pow_right (by omega) h1
  rcases Nat.eq_zero_or_pos (d j) with h5 | h5
  · exact h5
  · have h6 : 65536 ^ j * 1 ≤ 65536 ^ j * d j := Nat.mul_le_mul_left _ h5
    generalize 65536 ^ j * d j = u at *
    generalize 65536 ^ j = v at *
    generalize 65536 ^ n = x at *
    omega

set_option maxRecDepth 100000 in
set_option maxHeartbeats 4000000 in
theorem minus_any (ba ca bb cb n m : Nat) (da db : Nat → Nat) (hn0 : 0 < n) (hn : (n : Int) ≤ 1000000) (_hm : (m : Int) ≤ 1000000) (ha : ∀ j, j < n → da j < 65536) (hb : ∀ j, j < m → db j < 65536) (hle : vd db m ≤ vd da n) (w : World) (hA : Dg w ba n da) (hB : Dg w bb m db) :
    Calls Try.prog 76 #[.slice (some ⟨ba, 0, none⟩) n ca, .slice (some ⟨bb, 0, none⟩) m cb] w (MkDg n (vd da n - vd db m) w) := by
  have Ha := Lib.hid ha; clear ha
  have Hb := Lib.hid hb; clear hb
  have HA := Lib.hid hA; clear hA
  have HB := Lib.hid hB; clear hB
  have HLE := Lib.hid hle; clear hle
  have HN0 := Lib.hid hn0; clear hn0
  obtain ⟨i0, hi, hz0, hz1, hz2⟩ := info_parts info22
  go_enter Try.func76, Try.ntmps76
  go_wp2
  go_loopw [5, 6, 7] (fun v cv i wr => ∃ k c : Nat, k ≤ n ∧ i = .int .i64 k ∧ cv = .int .u64 c ∧ Hid (MinRel w n m k c da db v wr)) (fun _ _ i _ => n - (intOf i).toNat)
  case atStart =>
    refine ⟨0, 0, by omega, rfl, rfl, Lib.hid ⟨by omega, da, ?_, by omega, rfl, by go_grown, by simp⟩⟩
    exact World.ownsRow_made (base := w.heap.size) (e := 59) (size := 1) w #[] 0 (by simp) (by decide) (by simp)
  case round =>
    obtain ⟨k, c, hk, rfl, rfl, H⟩ := hrel
    have hk0 : (0 : Int) ≤ k := by omega
    have hk1 : (k : Int) ≤ 1000000 := by omega
    obtain ⟨hc, ns, hown, hns, hval, hbel, hsz⟩ := H.out
    have hc0 : (0 : Int) ≤ c := by omega
    have hc1 : (c : Int) ≤ 1 := by omega
    have HO := Lib.hid hown; clear hown
    have HNS := Lib.hid hns; clear hns
    have HVAL := Lib.hid hval; clear hval
    have HBEL := Lib.hid hbel; clear hbel
    have HSZ := Lib.hid hsz; clear hsz
    have HC := Lib.hid hc; clear hc H
    by_cases h1 : k < n
    · have hka : (k : Int) < (n : Int) := by omega
      have xa : ((da k : Nat) : Int) ≤ 65535 := by have := Ha.out k (by omega); omega
      have xa0 : (0 : Int) ≤ (da k : Nat) := by omega
      have ea : wr.cell? ⟨ba, k, none⟩ = some (.int .u64 (da k : Nat)) := (HBEL.out.cell (p := ⟨ba, k, none⟩) HA.out.1).trans (HA.out.2 k (by omega))
      by_cases h2 : k < m
      · by_cases h3 : da k < c + db k
        · have hkb : (k : Int) < (m : Int) := by omega
          have xb : ((db k : Nat) : Int) ≤ 65535 := by have := Hb.out k (by omega); omega
          have xb0 : (0 : Int) ≤ (db k : Nat) := by omega
          have eb : wr.cell? ⟨bb, k, none⟩ = some (.int .u64 (db k : Nat)) := (HBEL.out.cell (p := ⟨bb, k, none⟩) HB.out.1).trans (HB.out.2 k (by omega))
          have eb' : pad db m k = db k := by simp only [pad]; rw [if_pos (by omega)]
          obtain ⟨y, hy⟩ : ∃ y : Nat, (c : Int) + (db k : Nat) = (y : Int) := ⟨c + db k, by omega⟩
          have hyc : y = c + pad db m k := by rw [eb']; omega
          have HYC := Lib.hid hyc; clear hyc eb'
          have hyb : (y : Int) ≤ 65536 := by omega
          have hy0 : (0 : Int) ≤ y := by omega
          have hlt : ((da k : Nat) : Int) < (y : Int) := by omega
          obtain ⟨z, hz⟩ : ∃ z : Nat, ((da k : Nat) : Int) + 65536 - (y : Int) = (z : Int) := ⟨da k + 65536 - y, by omega⟩
          have hzl : z < 65536 := by omega
          have hzx : z + (c + pad db m k) = da k + 65536 * 1 := by have := HYC.out; omega
          have HZX := Lib.hid hzx; clear hzx
          have HZL := Lib.hid hzl; clear hzl
          go_wp2_with (at_builtin; refine wpList_append_own _ rfl (.tmp 37) (.tmp 41) 56 rfl w.heap.size 59 i0 (.int .u64 0) 1 8 Try.underlying56 hi hz0 hz1 hz2 rfl (by decide) _ _ _ rfl (HO.out.alloc _) ⟨wr.heap.size, 0, none⟩ 1 1 [.int .u64 (z : Int)] rfl rfl ?d111 ?d112 ?d113 ?d114 ?d115 ?_)
          try (case d111 => exact cell_one_new _ _ _)
          try (case d112 => first | rfl | (intro u hu; simp at hu; subst hu; rfl))
          try (case d113 => unfold maxLen; omega)
          try (case d114 => omega)
          try (case d115 => have := HSZ.out; first | omega | (simp; omega))
          intro v' w1 hown' hgrow _
          have HN := Lib.hid (min_next (n := n) (m := m) (da := da) (db := db) HO.out HNS.out HVAL.out HBEL.out HSZ.out HZL.out (by omega) HZX.out hown' hgrow)
          clear hown' hgrow
          go_wp2
          go_roundw
          case rel => exact ⟨k + 1, 1, by omega, by go_num, rfl, HN⟩
          case measure => simp [intOf]; omega
        · have hkb : (k : Int) < (m : Int) := by omega
          have xb : ((db k : Nat) : Int) ≤ 65535 := by have := Hb.out k (by omega); omega
          have xb0 : (0 : Int) ≤ (db k : Nat) := by omega
          have eb : wr.cell? ⟨bb, k, none⟩ = some (.int .u64 (db k : Nat)) := (HBEL.out.cell (p := ⟨bb, k, none⟩) HB.out.1).trans (HB.out.2 k (by omega))
          have eb' : pad db m k = db k := by simp only [pad]; rw [if_pos (by omega)]
          obtain ⟨y, hy⟩ : ∃ y : Nat, (c : Int) + (db k : Nat) = (y : Int) := ⟨c + db k, by omega⟩
          have hyc : y = c + pad db m k := by rw [eb']; omega
          have HYC := Lib.hid hyc; clear hyc eb'
          have hyb : (y : Int) ≤ 65536 := by omega
          have hy0 : (0 : Int) ≤ y := by omega
          have hlt : ¬ ((da k : Nat) : Int) < (y : Int) := by omega
          obtain ⟨z, hz⟩ : ∃ z : Nat, ((da k : Nat) : Int) - (y : Int) = (z : Int) := ⟨da k - y, by omega⟩
          have hzl : z < 65536 := by omega
          have hzx : z + (c + pad db m k) = da k + 65536 * 0 := by have := HYC.out; omega
          have HZX := Lib.hid hzx; clear hzx
          have HZL := Lib.hid hzl; clear hzl
          go_wp2_with (at_builtin; refine wpList_append_own _ rfl (.tmp 37) (.tmp 41) 56 rfl w.heap.size 59 i0 (.int .u64 0) 1 8 Try.underlying56 hi hz0 hz1 hz2 rfl (by decide) _ _ _ rfl (HO.out.alloc _) ⟨wr.heap.size, 0, none⟩ 1 1 [.int .u64 (z : Int)] rfl rfl ?d101 ?d102 ?d103 ?d104 ?d105 ?_)
          try (case d101 => exact cell_one_new _ _ _)
          try (case d102 => first | rfl | (intro u hu; simp at hu; subst hu; rfl))
          try (case d103 => unfold maxLen; omega)
          try (case d104 => omega)
          try (case d105 => have := HSZ.out; first | omega | (simp; omega))
          intro v' w1 hown' hgrow _
          have HN := Lib.hid (min_next (n := n) (m := m) (da := da) (db := db) HO.out HNS.out HVAL.out HBEL.out HSZ.out HZL.out (by omega) HZX.out hown' hgrow)
          clear hown' hgrow
          go_wp2
          go_roundw
          case rel => exact ⟨k + 1, 0, by omega, by go_num, rfl, HN⟩
          case measure => simp [intOf]; omega
      · by_cases h3 : da k < c
        · have hkb : ¬ (k : Int) < (m : Int) := by omega
          have eb' : pad db m k = 0 := by simp only [pad]; rw [if_neg (by omega)]
          obtain ⟨y, hy⟩ : ∃ y : Nat, c = y := ⟨c, rfl⟩
          subst hy
          have hyc : c = c + pad db m k := by rw [eb']; omega
          have HYC := Lib.hid hyc; clear hyc eb'
          have hyb : (c : Int) ≤ 65536 := by omega
          have hy0 : (0 : Int) ≤ c := by omega
          have hlt : ((da k : Nat) : Int) < (c : Int) := by omega
          obtain ⟨z, hz⟩ : ∃ z : Nat, ((da k : Nat) : Int) + 65536 - (c : Int) = (z : Int) := ⟨da k + 65536 - c, by omega⟩
          have hzl : z < 65536 := by omega
          have hzx : z + (c + pad db m k) = da k + 65536 * 1 := by have := HYC.out; omega
          have HZX := Lib.hid hzx; clear hzx
          have HZL := Lib.hid hzl; clear hzl
          go_wp2_with (at_builtin; refine wpList_append_own _ rfl (.tmp 37) (.tmp 41) 56 rfl w.heap.size 59 i0 (.int .u64 0) 1 8 Try.underlying56 hi hz0 hz1 hz2 rfl (by decide) _ _ _ rfl (HO.out.alloc _) ⟨wr.heap.size, 0, none⟩ 1 1 [.int .u64 (z : Int)] rfl rfl ?d011 ?d012 ?d013 ?d014 ?d015 ?_)
          try (case d011 => exact cell_one_new _ _ _)
          try (case d012 => first | rfl | (intro u hu; simp at hu; subst hu; rfl))
          try (case d013 => unfold maxLen; omega)
          try (case d014 => omega)
          try (case d015 => have := HSZ.out; first | omega | (simp; omega))
          intro v' w1 hown' hgrow _
          have HN := Lib.hid (min_next (n := n) (m := m) (da := da) (db := db) HO.out HNS.out HVAL.out HBEL.out HSZ.out HZL.out (by omega) HZX.out hown' hgrow)
          clear hown' hgrow
          go_wp2
          go_roundw
          case rel => exact ⟨k + 1, 1, by omega, by go_num, rfl, HN⟩
          case measure => simp [intOf]; omega
        · have hkb : ¬ (k : Int) < (m : Int) := by omega
          have eb' : pad db m k = 0 := by simp only [pad]; rw [if_neg (by omega)]
          obtain ⟨y, hy⟩ : ∃ y : Nat, c = y := ⟨c, rfl⟩
          subst hy
          have hyc : c = c + pad db m k := by rw [eb']; omega
          have HYC := Lib.hid hyc; clear hyc eb'
          have hyb : (c : Int) ≤ 65536 := by omega
          have hy0 : (0 : Int) ≤ c := by omega
          have hlt : ¬ ((da k : Nat) : Int) < (c : Int) := by omega
          obtain ⟨z, hz⟩ : ∃ z : Nat, ((da k : Nat) : Int) - (c : Int) = (z : Int) := ⟨da k - c, by omega⟩
          have hzl : z < 65536 := by omega
          have hzx : z + (c + pad db m k) = da k + 65536 * 0 := by have := HYC.out; omega
          have HZX := Lib.hid hzx; clear hzx
          have HZL := Lib.hid hzl; clear hzl
          go_wp2_with (at_builtin; refine wpList_append_own _ rfl (.tmp 37) (.tmp 41) 56 rfl w.heap.size 59 i0 (.int .u64 0) 1 8 Try.underlying56 hi hz0 hz1 hz2 rfl (by decide) _ _ _ rfl (HO.out.alloc _) ⟨wr.heap.size, 0, none⟩ 1 1 [.int .u64 (z : Int)] rfl rfl ?d001 ?d002 ?d003 ?d004 ?d005 ?_)
          try (case d001 => exact cell_one_new _ _ _)
          try (case d002 => first | rfl | (intro u hu; simp at hu; subst hu; rfl))
          try (case d003 => unfold maxLen; omega)
          try (case d004 => omega)
          try (case d005 => have := HSZ.out; first | omega | (simp; omega))
          intro v' w1 hown' hgrow _
          have HN := Lib.hid (min_next (n := n) (m := m) (da := da) (db := db) HO.out HNS.out HVAL.out HBEL.out HSZ.out HZL.out (by omega) HZX.out hown' hgrow)
          clear hown' hgrow
          go_wp2
          go_roundw
          case rel => exact ⟨k + 1, 0, by omega, by go_num, rfl, HN⟩
          case measure => simp [intOf]; omega
    · have hka : ¬ (k : Int) < (n : Int) := by omega
      obtain rfl : k = n := by omega
      have hc2 := min_end HVAL.out HC.out (vd_lt HNS.out) HLE.out (pad_le db m k)
      have R := made_of (Nat.le_refl _) HO.out HN0.out HNS.out HBEL.out
      have hpe : vd (pad db m) k = vd db m := by
        by_cases q : m ≤ k
        · exact vd_pad _ _ _ q
        · have h5 := vd_small (d := db) (n := k) (m := m) (Nat.lt_of_le_of_lt HLE.out (vd_lt Ha.out))
          rw [vd_full (d := db) k m h5 (by omega)]
          exact vd_congr (fun j hj => by simp only [pad]; rw [if_pos (by omega)])
      have hfin : vd ns k = vd da k - vd db m := by have := HVAL.out; rw [hc2, hpe] at this; omega
      rw [hfin] at R
      have HR := Lib.hid R
      clear R hfin hpe hc2
      go_wp2
      go_ret
      exact HR.out
end Go.Proofs.Ytgegkffigjogcaa

/- What bailiwickref01.Sum comes to, called with any two slices of digits. -/
import Derived.Test.YtgegkffigjogcaaDg
namespace Go.Proofs.Ytgegkffigjogcaa
open Go.RowKit

/-- One round's reckoning. -/
theorem sum_step {P x c N A B : Nat} (h : N + P * c = A + B) (ak bk : Nat) (hx : x = c + ak + bk) : N + P * (x % 65536) + P * 65536 * (x / 65536) = (A + P * ak) + (B + P * bk) := by
  have e : x = x % 65536 + 65536 * (x / 65536) := by omega
  have e1 : P * x = P * (x % 65536) + P * 65536 * (x / 65536) := by
    rw [Nat.mul_assoc, ← Nat.mul_add, ← e]
  have e2 : P * x = P * c + P * ak + P * bk := by rw [hx, Nat.mul_add, Nat.mul_add]
  omega

/-- What the loop of Sum keeps. -/
def SumRel (w : World) (n m k c : Nat) (da db : Nat → Nat) (v : Value) (wr : World) : Prop :=
  c ≤ 1 ∧ ∃ ns : Nat → Nat, wr.ownsRow w.heap.size 59 1 v k (dl ns k) ∧ (∀ j, j < k → ns j < 65536) ∧ vd ns k + 65536 ^ k * c = vd (pad da n) k + vd (pad db m) k ∧ Below w.heap.size w wr ∧ w.heap.size < wr.heap.size

theorem sum_next {w wr w1 : World} {n m k c x : Nat} {da db ns : Nat → Nat} {v v' X : Value} (hc : c ≤ 1) (hown : wr.ownsRow w.heap.size 59 1 v k (dl ns k)) (hns : ∀ j, j < k → ns j < 65536)
    (hv : vd ns k + 65536 ^ k * c = vd (pad da n) k + vd (pad db m) k) (hb : Below w.heap.size w wr) (hz : w.heap.size < wr.heap.size) (hx : x = c + pad da n k + pad db m k) (ha : pad da n k < 65536) (hbd : pad db m k < 65536)
    (hown' : w1.ownsRow w.heap.size 59 1 v' (k + 1) (dl ns k ++ [.int .u64 ((x % 65536 : Nat) : Int)])) (hgrow : (wr.alloc (.cells #[X] 59)).grownBy w1 v.ownBlock) :
    SumRel w n m (k + 1) (x / 65536) da db v' w1 := by
  obtain ⟨ho, hb'⟩ := push_rel hown hb (by omega) hown' hgrow
  have hs := hgrow.size
  simp at hs
  refine ⟨by omega, upd ns k (x % 65536), ho, upd_lt hns (by omega), ?_, hb', by omega⟩
  rw [vd_upd, Nat.pow_succ]
  exact sum_step hv _ _ hx

set_option maxRecDepth 100000 in
set_option maxHeartbeats 4000000 in
theorem sum_any (ba ca bb cb n m : Nat) (da db : Nat → Nat) (hn : (n : Int) ≤ 1000000) (hm : (m : Int) ≤ 1000000) (ha : ∀ j, j < n → da j < 65536) (hb : ∀ j, j < m → db j < 65536) (w : World) (hA : Dg w ba n da) (hB : Dg w bb m db) :
    Calls Try.prog 46 #[.slice (some ⟨ba, 0, none⟩) n ca, .slice (some ⟨bb, 0, none⟩) m cb] w (MkDg (max n m + 1) (vd da n + vd db m) w) := by
  have Ha := Lib.hid ha; clear ha
  have Hb := Lib.hid hb; clear hb
  have HA := Lib.hid hA; clear hA
  have HB := Lib.hid hB; clear hB
  obtain ⟨i0, hi, hz0, hz1, hz2⟩ := info_parts info22
  go_enter Try.func46, Try.ntmps46
  go_wp2
  go_loopw [5, 6, 7] (fun v cv i wr => ∃ k c : Nat, k ≤ max n m ∧ i = .int .i64 k ∧ cv = .int .u64 c ∧ Hid (SumRel w n m k c da db v wr)) (fun _ _ i _ => max n m - (intOf i).toNat)
  case atStart =>
    refine ⟨0, 0, by omega, rfl, rfl, Lib.hid ⟨by omega, da, ?_, by omega, rfl, by go_grown, by simp⟩⟩
    exact World.ownsRow_made (base := w.heap.size) (e := 59) (size := 1) w #[] 0 (by simp) (by decide) (by simp)
  case round =>
    obtain ⟨k, c, hk, rfl, rfl, H⟩ := hrel
    have hk0 : (0 : Int) ≤ k := by omega
    have hk1 : (k : Int) ≤ 1000000 := by omega
    obtain ⟨hc, ns, hown, hns, hval, hbel, hsz⟩ := H.out
    have hc0 : (0 : Int) ≤ c := by omega
    have hc1 : (c : Int) ≤ 1 := by omega
    have HO := Lib.hid hown; clear hown
    have HNS := Lib.hid hns; clear hns
    have HVAL := Lib.hid hval; clear hval
    have HBEL := Lib.hid hbel; clear hbel
    have HSZ := Lib.hid hsz; clear hsz
    have HC := Lib.hid hc; clear hc H
    by_cases h1 : k < n
    · by_cases h2 : k < m
      · have xa : ((da k : Nat) : Int) ≤ 65535 := by have := Ha.out k (by omega); omega
        have xa0 : (0 : Int) ≤ (da k : Nat) := by omega
        have ea : wr.cell? ⟨ba, k, none⟩ = some (.int .u64 (da k : Nat)) := (HBEL.out.cell (p := ⟨ba, k, none⟩) HA.out.1).trans (HA.out.2 k (by omega))
        have hka : (k : Int) < (n : Int) := by omega
        have xb : ((db k : Nat) : Int) ≤ 65535 := by have := Hb.out k (by omega); omega
        have xb0 : (0 : Int) ≤ (db k : Nat) := by omega
        have eb : wr.cell? ⟨bb, k, none⟩ = some (.int .u64 (db k : Nat)) := (HBEL.out.cell (p := ⟨bb, k, none⟩) HB.out.1).trans (HB.out.2 k (by omega))
        have hkb : (k : Int) < (m : Int) := by omega
        obtain ⟨x, hx⟩ : ∃ x : Nat, c + da k + db k = x := ⟨_, rfl⟩
        have hxi : (c : Int) + (da k : Nat) + (db k : Nat) = (x : Int) := by omega
        have hxb : x < 200000 := by have := HC.out; omega
        have hand : bits .and .u64 (x : Int) 65535 = ((x % 65536 : Nat) : Int) := and_low16 x (by omega)
        have hxl : (x : Int) < 200000 := by omega
        have hx0 : (0 : Int) ≤ x := by omega
        have HAND := Lib.hid hand; clear hand
        have HX := Lib.hid hx; clear hx
        go_wp2_with (at_builtin; refine wpList_append_own _ rfl (.tmp 43) (.tmp 46) 56 rfl w.heap.size 59 i0 (.int .u64 0) 1 8 Try.underlying56 hi hz0 hz1 hz2 rfl (by decide) _ _ _ rfl (HO.out.alloc _) ⟨wr.heap.size, 0, none⟩ 1 1 [.int .u64 (bits .and .u64 (x : Int) 65535)] rfl rfl ?d111 ?d112 ?d113 ?d114 ?d115 ?_)
        try (case d111 => exact cell_one_new _ _ _)
        try (case d112 => first | rfl | (intro u hu; simp at hu; subst hu; rfl))
        try (case d113 => unfold maxLen; omega)
        try (case d114 => omega)
        try (case d115 => have := HSZ.out; first | omega | (simp; omega))
        intro v' w1 hown' hgrow _
        rw [HAND.out] at hown'
        have ea' : pad da n k = da k := by simp only [pad]; rw [if_pos (by omega)]
        have eb' : pad db m k = db k := by simp only [pad]; rw [if_pos (by omega)]
        have HN := Lib.hid (sum_next (x := x) (da := da) (db := db) (n := n) (m := m) HC.out HO.out HNS.out HVAL.out HBEL.out HSZ.out (by rw [ea', eb']; have := HX.out; omega) (by rw [ea']; omega) (by rw [eb']; omega) hown' hgrow)
        clear hown' hgrow ea' eb'
        go_wp2
        go_roundw
        case rel => exact ⟨k + 1, x / 65536, by omega, by go_num, by go_num, HN⟩
        case measure => simp [intOf]; omega
      · have xa : ((da k : Nat) : Int) ≤ 65535 := by have := Ha.out k (by omega); omega
        have xa0 : (0 : Int) ≤ (da k : Nat) := by omega
        have ea : wr.cell? ⟨ba, k, none⟩ = some (.int .u64 (da k : Nat)) := (HBEL.out.cell (p := ⟨ba, k, none⟩) HA.out.1).trans (HA.out.2 k (by omega))
        have hka : (k : Int) < (n : Int) := by omega
        have hkb : ¬ (k : Int) < (m : Int) := by omega
        obtain ⟨x, hx⟩ : ∃ x : Nat, c + da k = x := ⟨_, rfl⟩
        have hxi : (c : Int) + (da k : Nat) = (x : Int) := by omega
        have hxb : x < 200000 := by have := HC.out; omega
        have hand : bits .and .u64 (x : Int) 65535 = ((x % 65536 : Nat) : Int) := and_low16 x (by omega)
        have hxl : (x : Int) < 200000 := by omega
        have hx0 : (0 : Int) ≤ x := by omega
        have HAND := Lib.hid hand; clear hand
        have HX := Lib.hid hx; clear hx
        go_wp2_with (at_builtin; refine wpList_append_own _ rfl (.tmp 43) (.tmp 46) 56 rfl w.heap.size 59 i0 (.int .u64 0) 1 8 Try.underlying56 hi hz0 hz1 hz2 rfl (by decide) _ _ _ rfl (HO.out.alloc _) ⟨wr.heap.size, 0, none⟩ 1 1 [.int .u64 (bits .and .u64 (x : Int) 65535)] rfl rfl ?d101 ?d102 ?d103 ?d104 ?d105 ?_)
        try (case d101 => exact cell_one_new _ _ _)
        try (case d102 => first | rfl | (intro u hu; simp at hu; subst hu; rfl))
        try (case d103 => unfold maxLen; omega)
        try (case d104 => omega)
        try (case d105 => have := HSZ.out; first | omega | (simp; omega))
        intro v' w1 hown' hgrow _
        rw [HAND.out] at hown'
        have ea' : pad da n k = da k := by simp only [pad]; rw [if_pos (by omega)]
        have eb' : pad db m k = 0 := by simp only [pad]; rw [if_neg (by omega)]
        have HN := Lib.hid (sum_next (x := x) (da := da) (db := db) (n := n) (m := m) HC.out HO.out HNS.out HVAL.out HBEL.out HSZ.out (by rw [ea', eb']; have := HX.out; omega) (by rw [ea']; omega) (by rw [eb']; omega) hown' hgrow)
        clear hown' hgrow ea' eb'
        go_wp2
        go_roundw
        case rel => exact ⟨k + 1, x / 65536, by omega, by go_num, by go_num, HN⟩
        case measure => simp [intOf]; omega
    · by_cases h2 : k < m
      · have hka : ¬ (k : Int) < (n : Int) := by omega
        have xb : ((db k : Nat) : Int) ≤ 65535 := by have := Hb.out k (by omega); omega
        have xb0 : (0 : Int) ≤ (db k : Nat) := by omega
        have eb : wr.cell? ⟨bb, k, none⟩ = some (.int .u64 (db k : Nat)) := (HBEL.out.cell (p := ⟨bb, k, none⟩) HB.out.1).trans (HB.out.2 k (by omega))
        have hkb : (k : Int) < (m : Int) := by omega
        obtain ⟨x, hx⟩ : ∃ x : Nat, c + db k = x := ⟨_, rfl⟩
        have hxi : (c : Int) + (db k : Nat) = (x : Int) := by omega
        have hxb : x < 200000 := by have := HC.out; omega
        have hand : bits .and .u64 (x : Int) 65535 = ((x % 65536 : Nat) : Int) := and_low16 x (by omega)
        have hxl : (x : Int) < 200000 := by omega
        have hx0 : (0 : Int) ≤ x := by omega
        have HAND := Lib.hid hand; clear hand
        have HX := Lib.hid hx; clear hx
        go_wp2_with (at_builtin; refine wpList_append_own _ rfl (.tmp 43) (.tmp 46) 56 rfl w.heap.size 59 i0 (.int .u64 0) 1 8 Try.underlying56 hi hz0 hz1 hz2 rfl (by decide) _ _ _ rfl (HO.out.alloc _) ⟨wr.heap.size, 0, none⟩ 1 1 [.int .u64 (bits .and .u64 (x : Int) 65535)] rfl rfl ?d011 ?d012 ?d013 ?d014 ?d015 ?_)
        try (case d011 => exact cell_one_new _ _ _)
        try (case d012 => first | rfl | (intro u hu; simp at hu; subst hu; rfl))
        try (case d013 => unfold maxLen; omega)
        try (case d014 => omega)
        try (case d015 => have := HSZ.out; first | omega | (simp; omega))
        intro v' w1 hown' hgrow _
        rw [HAND.out] at hown'
        have ea' : pad da n k = 0 := by simp only [pad]; rw [if_neg (by omega)]
        have eb' : pad db m k = db k := by simp only [pad]; rw [if_pos (by omega)]
        have HN := Lib.hid (sum_next (x := x) (da := da) (db := db) (n := n) (m := m) HC.out HO.out HNS.out HVAL.out HBEL.out HSZ.out (by rw [ea', eb']; have := HX.out; omega) (by rw [ea']; omega) (by rw [eb']; omega) hown' hgrow)
        clear hown' hgrow ea' eb'
        go_wp2
        go_roundw
        case rel => exact ⟨k + 1, x / 65536, by omega, by go_num, by go_num, HN⟩
        case measure => simp [intOf]; omega
      · have hka : ¬ (k : Int) < (n : Int) := by omega
        have hkb : ¬ (k : Int) < (m : Int) := by omega
        go_wp2_with (at_builtin; refine wpList_append_own _ rfl (.tmp 50) (.tmp 52) 56 rfl w.heap.size 59 i0 (.int .u64 0) 1 8 Try.underlying56 hi hz0 hz1 hz2 rfl (by decide) _ _ _ rfl (HO.out.alloc _) ⟨wr.heap.size, 0, none⟩ 1 1 [.int .u64 (c : Int)] rfl rfl ?e1 ?e2 ?e3 ?e4 ?e5 ?_)
        try (case e1 => exact cell_one_new _ _ _)
        try (case e2 => first | rfl | (intro u hu; simp at hu; subst hu; rfl))
        try (case e3 => unfold maxLen; omega)
        try (case e4 => omega)
        try (case e5 => have := HSZ.out; first | omega | (simp; omega))
        intro v' w1 hown' hgrow _
        obtain rfl : k = max n m := by omega
        obtain ⟨ho, hb'⟩ := push_rel HO.out HBEL.out (by have := HSZ.out; omega) hown' hgrow
        have R := made_of (Nat.le_refl _) ho (by omega) (upd_lt HNS.out (by have := HC.out; omega)) hb'
        rw [vd_upd, HVAL.out, vd_pad _ _ _ (by omega), vd_pad _ _ _ (by omega)] at R
        have HR := Lib.hid R
        clear hown' hgrow ho hb' R
        go_wp2
        go_ret
        exact HR.out
end Go.Proofs.Ytgegkffigjogcaa

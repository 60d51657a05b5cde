/- What word.divide comes to, over what it calls: the quotient's parts and the rest. (With it, merged: Minus · RDivNum · RDiv · Tie0 · DivNum · DivRows · DivSl · DivAll.) -/
import Derived.Test.YtmhgnlngcjckbaaDoorZ2
import Derived.Test.YtmhgnlngcjckbaaDoorZ4
import Derived.Test.YtmhgnlngcjckbaaDoorZ1
import Derived.StillTail
import Derived.Laws.CopyOwn
import Derived.IntWalk
namespace Go.Proofs.YtmhgnlngcjckbaaDoor
open Go.RowKit

def MinRel (w : World) (_n m k c : Nat) (da db : Nat → Nat) (v : Value) (wr : World) : Prop :=
  c ≤ 1 ∧ ∃ ns : Nat → Nat, wr.ownsRow w.heap.size 22 1 v k (dl ns k) ∧ (∀ j, j < k → ns j < 65536) ∧ vd ns k + vd (pad db m) k = vd da k + 65536 ^ k * c ∧ Below w.heap.size w wr ∧ w.heap.size < wr.heap.size
theorem min_step {P N B A c d bk ak c' : Nat} (h : N + B = A + P * c) (h1 : d + (c + bk) = ak + 65536 * c') : N + P * d + (B + P * bk) = A + P * ak + P * 65536 * c' := by
  have e := congrArg (P * ·) h1
  simp only [Nat.mul_add] at e
  rw [← Nat.mul_assoc] at e
  omega
theorem min_next {w wr w1 : World} {n m k c c' y : Nat} {da db ns : Nat → Nat} {v v' X : Value} (hown : wr.ownsRow w.heap.size 22 1 v k (dl ns k)) (hns : ∀ j, j < k → ns j < 65536)
    (hv : vd ns k + vd (pad db m) k = vd da k + 65536 ^ k * c) (hb : Below w.heap.size w wr) (hz : w.heap.size < wr.heap.size) (hy : y < 65536) (hc' : c' ≤ 1) (hx : y + (c + pad db m k) = da k + 65536 * c')
    (hown' : w1.ownsRow w.heap.size 22 1 v' (k + 1) (dl ns k ++ [.int .u64 (y : Nat)])) (hgrow : (wr.alloc (.cells #[X] 22)).grownBy w1 v.ownBlock) :
    MinRel w n m (k + 1) c' da db v' w1 := by
  obtain ⟨ho, hb'⟩ := push_rel hown hb (by omega) hown' hgrow
  have hs := hgrow.size
  simp at hs
  refine ⟨hc', upd ns k y, ho, upd_lt hns hy, ?_, hb', by omega⟩
  rw [vd_upd, Nat.pow_succ]
  exact min_step hv hx
theorem min_end {P N B A c T : Nat} (h : N + B = A + P * c) (hc : c ≤ 1) (hN : N < P) (hT : T ≤ A) (hB : B ≤ T) : c = 0 := by
  have : c = 0 ∨ c = 1 := by omega
  rcases this with h0 | h0
  · exact h0
  · subst h0; omega
theorem vd_mono (d : Nat → Nat) (a : Nat) : ∀ e, vd d a ≤ vd d (a + e)
  | 0 => Nat.le_refl _
  | e + 1 => Nat.le_trans (vd_mono d a e) (Nat.le_add_right _ _)
theorem pad_le (db : Nat → Nat) (m : Nat) : ∀ k, vd (pad db m) k ≤ vd db m
  | 0 => Nat.zero_le _
  | k + 1 => by
    by_cases h : k + 1 ≤ m
    · rw [vd_congr (e := db) (fun j hj => by simp only [pad]; rw [if_pos (by omega)])]
      have h2 := vd_mono db (k + 1) (m - (k + 1))
      rwa [show k + 1 + (m - (k + 1)) = m by omega] at h2
    · rw [vd_pad _ _ _ (by omega)]; exact Nat.le_refl _
theorem vd_full {d : Nat → Nat} : ∀ n m, (∀ j, n ≤ j → j < m → d j = 0) → n ≤ m → vd d m = vd d n
  | n, 0, _, h => by rw [show n = 0 by omega]
  | n, m + 1, h0, h => by
    by_cases e : n = m + 1
    · rw [e]
    · rw [vd, vd_full n m (fun j h1 h2 => h0 j h1 (by omega)) (by omega), h0 m (by omega) (by omega)]; omega
theorem vd_small {d : Nat → Nat} {n m : Nat} (h : vd d m < 65536 ^ n) : ∀ j, n ≤ j → j < m → d j = 0 := fun j h1 h2 => by
  have h3 := vd_mono d (j + 1) (m - (j + 1))
  rw [show j + 1 + (m - (j + 1)) = m by omega, vd] at h3
  have h4 : 65536 ^ n ≤ 65536 ^ j := Nat.pow_le_pow_right (by omega) h1
  rcases Nat.eq_zero_or_pos (d j) with h5 | h5
  · exact h5
  · have h6 : 65536 ^ j * 1 ≤ 65536 ^ j * d j := Nat.mul_le_mul_left _ h5
    generalize 65536 ^ j * d j = u at *
    generalize 65536 ^ j = v at *
    generalize 65536 ^ n = x at *
    omega

set_option maxRecDepth 100000 in
set_option maxHeartbeats 4000000 in
theorem minus_any (ba ca bb cb n m : Nat) (da db : Nat → Nat) (hn0 : 0 < n) (hn : (n : Int) ≤ 1000000) (_hm : (m : Int) ≤ 1000000) (ha : ∀ j, j < n → da j < 65536) (hb : ∀ j, j < m → db j < 65536) (hle : vd db m ≤ vd da n) (w : World) (hA : Dg w ba n da) (hB : Dg w bb m db) :
    Calls Tryd.prog 65 #[.slice (some ⟨ba, 0, none⟩) n ca, .slice (some ⟨bb, 0, none⟩) m cb] w (MkDg n (vd da n - vd db m) w) := by
  have Ha := Lib.hid ha; clear ha
  have Hb := Lib.hid hb; clear hb
  have HA := Lib.hid hA; clear hA
  have HB := Lib.hid hB; clear hB
  have HLE := Lib.hid hle; clear hle
  have HN0 := Lib.hid hn0; clear hn0
  obtain ⟨i0, hi, hz0, hz1, hz2⟩ := info_parts info22
  go_enter Tryd.func65, Tryd.ntmps65
  go_wp2
  go_loopw [5, 6, 7] (fun v cv i wr => ∃ k c : Nat, k ≤ n ∧ i = .int .i64 k ∧ cv = .int .u64 c ∧ Hid (MinRel w n m k c da db v wr)) (fun _ _ i _ => n - (intOf i).toNat)
  case atStart =>
    refine ⟨0, 0, by omega, rfl, rfl, Lib.hid ⟨by omega, da, ?_, by omega, rfl, by go_grown, by simp⟩⟩
    exact World.ownsRow_made (base := w.heap.size) (e := 22) (size := 1) w #[] 0 (by simp) (by decide) (by simp)
  case round =>
    obtain ⟨k, c, hk, rfl, rfl, H⟩ := hrel
    have hk0 : (0 : Int) ≤ k := by omega
    have hk1 : (k : Int) ≤ 1000000 := by omega
    obtain ⟨hc, ns, hown, hns, hval, hbel, hsz⟩ := H.out
    have hc0 : (0 : Int) ≤ c := by omega
    have hc1 : (c : Int) ≤ 1 := by omega
    have HO := Lib.hid hown; clear hown
    have HNS := Lib.hid hns; clear hns
    have HVAL := Lib.hid hval; clear hval
    have HBEL := Lib.hid hbel; clear hbel
    have HSZ := Lib.hid hsz; clear hsz
    have HC := Lib.hid hc; clear hc H
    by_cases h1 : k < n
    · have hka : (k : Int) < (n : Int) := by omega
      have xa : ((da k : Nat) : Int) ≤ 65535 := by have := Ha.out k (by omega); omega
      have xa0 : (0 : Int) ≤ (da k : Nat) := by omega
      have ea : wr.cell? ⟨ba, k, none⟩ = some (.int .u64 (da k : Nat)) := (HBEL.out.cell (p := ⟨ba, k, none⟩) HA.out.1).trans (HA.out.2 k (by omega))
      by_cases h2 : k < m
      · by_cases h3 : da k < c + db k
        · have hkb : (k : Int) < (m : Int) := by omega
          have xb : ((db k : Nat) : Int) ≤ 65535 := by have := Hb.out k (by omega); omega
          have xb0 : (0 : Int) ≤ (db k : Nat) := by omega
          have eb : wr.cell? ⟨bb, k, none⟩ = some (.int .u64 (db k : Nat)) := (HBEL.out.cell (p := ⟨bb, k, none⟩) HB.out.1).trans (HB.out.2 k (by omega))
          have eb' : pad db m k = db k := by simp only [pad]; rw [if_pos (by omega)]
          obtain ⟨y, hy⟩ : ∃ y : Nat, (c : Int) + (db k : Nat) = (y : Int) := ⟨c + db k, by omega⟩
          have hyc : y = c + pad db m k := by rw [eb']; omega
          have HYC := Lib.hid hyc; clear hyc eb'
          have hyb : (y : Int) ≤ 65536 := by omega
          have hy0 : (0 : Int) ≤ y := by omega
          have hlt : ((da k : Nat) : Int) < (y : Int) := by omega
          obtain ⟨z, hz⟩ : ∃ z : Nat, ((da k : Nat) : Int) + 65536 - (y : Int) = (z : Int) := ⟨da k + 65536 - y, by omega⟩
          have hzl : z < 65536 := by omega
          have hzx : z + (c + pad db m k) = da k + 65536 * 1 := by have := HYC.out; omega
          have HZX := Lib.hid hzx; clear hzx
          have HZL := Lib.hid hzl; clear hzl
          go_wp2_with (at_builtin; refine wpList_append_own _ rfl (.tmp 37) (.tmp 41) 38 rfl w.heap.size 22 i0 (.int .u64 0) 1 8 Tryd.underlying38 hi hz0 hz1 hz2 rfl (by decide) _ _ _ rfl (HO.out.alloc _) ⟨wr.heap.size, 0, none⟩ 1 1 [.int .u64 (z : Int)] rfl rfl ?d111 ?d112 ?d113 ?d114 ?d115 ?_)
          try (case d111 => exact cell_one_new _ _ _)
          try (case d112 => first | rfl | (intro u hu; simp at hu; subst hu; rfl))
          try (case d113 => unfold maxLen; omega)
          try (case d114 => omega)
          try (case d115 => have := HSZ.out; first | omega | (simp; omega))
          intro v' w1 hown' hgrow _
          have HN := Lib.hid (min_next (n := n) (m := m) (da := da) (db := db) HO.out HNS.out HVAL.out HBEL.out HSZ.out HZL.out (by omega) HZX.out hown' hgrow)
          clear hown' hgrow
          go_wp2
          go_roundw
          case rel => exact ⟨k + 1, 1, by omega, by go_num, rfl, HN⟩
          case measure => simp [intOf]; omega
        · have hkb : (k : Int) < (m : Int) := by omega
          have xb : ((db k : Nat) : Int) ≤ 65535 := by have := Hb.out k (by omega); omega
          have xb0 : (0 : Int) ≤ (db k : Nat) := by omega
          have eb : wr.cell? ⟨bb, k, none⟩ = some (.int .u64 (db k : Nat)) := (HBEL.out.cell (p := ⟨bb, k, none⟩) HB.out.1).trans (HB.out.2 k (by omega))
          have eb' : pad db m k = db k := by simp only [pad]; rw [if_pos (by omega)]
          obtain ⟨y, hy⟩ : ∃ y : Nat, (c : Int) + (db k : Nat) = (y : Int) := ⟨c + db k, by omega⟩
          have hyc : y = c + pad db m k := by rw [eb']; omega
          have HYC := Lib.hid hyc; clear hyc eb'
          have hyb : (y : Int) ≤ 65536 := by omega
          have hy0 : (0 : Int) ≤ y := by omega
          have hlt : ¬ ((da k : Nat) : Int) < (y : Int) := by omega
          obtain ⟨z, hz⟩ : ∃ z : Nat, ((da k : Nat) : Int) - (y : Int) = (z : Int) := ⟨da k - y, by omega⟩
          have hzl : z < 65536 := by omega
          have hzx : z + (c + pad db m k) = da k + 65536 * 0 := by have := HYC.out; omega
          have HZX := Lib.hid hzx; clear hzx
          have HZL := Lib.hid hzl; clear hzl
          go_wp2_with (at_builtin; refine wpList_append_own _ rfl (.tmp 37) (.tmp 41) 38 rfl w.heap.size 22 i0 (.int .u64 0) 1 8 Tryd.underlying38 hi hz0 hz1 hz2 rfl (by decide) _ _ _ rfl (HO.out.alloc _) ⟨wr.heap.size, 0, none⟩ 1 1 [.int .u64 (z : Int)] rfl rfl ?d101 ?d102 ?d103 ?d104 ?d105 ?_)
          try (case d101 => exact cell_one_new _ _ _)
          try (case d102 => first | rfl | (intro u hu; simp at hu; subst hu; rfl))
          try (case d103 => unfold maxLen; omega)
          try (case d104 => omega)
          try (case d105 => have := HSZ.out; first | omega | (simp; omega))
          intro v' w1 hown' hgrow _
          have HN := Lib.hid (min_next (n := n) (m := m) (da := da) (db := db) HO.out HNS.out HVAL.out HBEL.out HSZ.out HZL.out (by omega) HZX.out hown' hgrow)
          clear hown' hgrow
          go_wp2
          go_roundw
          case rel => exact ⟨k + 1, 0, by omega, by go_num, rfl, HN⟩
          case measure => simp [intOf]; omega
      · by_cases h3 : da k < c
        · have hkb : ¬ (k : Int) < (m : Int) := by omega
          have eb' : pad db m k = 0 := by simp only [pad]; rw [if_neg (by omega)]
          obtain ⟨y, hy⟩ : ∃ y : Nat, c = y := ⟨c, rfl⟩
          subst hy
          have hyc : c = c + pad db m k := by rw [eb']; omega
          have HYC := Lib.hid hyc; clear hyc eb'
          have hyb : (c : Int) ≤ 65536 := by omega
          have hy0 : (0 : Int) ≤ c := by omega
          have hlt : ((da k : Nat) : Int) < (c : Int) := by omega
          obtain ⟨z, hz⟩ : ∃ z : Nat, ((da k : Nat) : Int) + 65536 - (c : Int) = (z : Int) := ⟨da k + 65536 - c, by omega⟩
          have hzl : z < 65536 := by omega
          have hzx : z + (c + pad db m k) = da k + 65536 * 1 := by have := HYC.out; omega
          have HZX := Lib.hid hzx; clear hzx
          have HZL := Lib.hid hzl; clear hzl
          go_wp2_with (at_builtin; refine wpList_append_own _ rfl (.tmp 37) (.tmp 41) 38 rfl w.heap.size 22 i0 (.int .u64 0) 1 8 Tryd.underlying38 hi hz0 hz1 hz2 rfl (by decide) _ _ _ rfl (HO.out.alloc _) ⟨wr.heap.size, 0, none⟩ 1 1 [.int .u64 (z : Int)] rfl rfl ?d011 ?d012 ?d013 ?d014 ?d015 ?_)
          try (case d011 => exact cell_one_new _ _ _)
          try (case d012 => first | rfl | (intro u hu; simp at hu; subst hu; rfl))
          try (case d013 => unfold maxLen; omega)
          try (case d014 => omega)
          try (case d015 => have := HSZ.out; first | omega | (simp; omega))
          intro v' w1 hown' hgrow _
          have HN := Lib.hid (min_next (n := n) (m := m) (da := da) (db := db) HO.out HNS.out HVAL.out HBEL.out HSZ.out HZL.out (by omega) HZX.out hown' hgrow)
          clear hown' hgrow
          go_wp2
          go_roundw
          case rel => exact ⟨k + 1, 1, by omega, by go_num, rfl, HN⟩
          case measure => simp [intOf]; omega
        · have hkb : ¬ (k : Int) < (m : Int) := by omega
          have eb' : pad db m k = 0 := by simp only [pad]; rw [if_neg (by omega)]
          obtain ⟨y, hy⟩ : ∃ y : Nat, c = y := ⟨c, rfl⟩
          subst hy
          have hyc : c = c + pad db m k := by rw [eb']; omega
          have HYC := Lib.hid hyc; clear hyc eb'
          have hyb : (c : Int) ≤ 65536 := by omega
          have hy0 : (0 : Int) ≤ c := by omega
          have hlt : ¬ ((da k : Nat) : Int) < (c : Int) := by omega
          obtain ⟨z, hz⟩ : ∃ z : Nat, ((da k : Nat) : Int) - (c : Int) = (z : Int) := ⟨da k - c, by omega⟩
          have hzl : z < 65536 := by omega
          have hzx : z + (c + pad db m k) = da k + 65536 * 0 := by have := HYC.out; omega
          have HZX := Lib.hid hzx; clear hzx
          have HZL := Lib.hid hzl; clear hzl
          go_wp2_with (at_builtin; refine wpList_append_own _ rfl (.tmp 37) (.tmp 41) 38 rfl w.heap.size 22 i0 (.int .u64 0) 1 8 Tryd.underlying38 hi hz0 hz1 hz2 rfl (by decide) _ _ _ rfl (HO.out.alloc _) ⟨wr.heap.size, 0, none⟩ 1 1 [.int .u64 (z : Int)] rfl rfl ?d001 ?d002 ?d003 ?d004 ?d005 ?_)
          try (case d001 => exact cell_one_new _ _ _)
          try (case d002 => first | rfl | (intro u hu; simp at hu; subst hu; rfl))
          try (case d003 => unfold maxLen; omega)
          try (case d004 => omega)
          try (case d005 => have := HSZ.out; first | omega | (simp; omega))
          intro v' w1 hown' hgrow _
          have HN := Lib.hid (min_next (n := n) (m := m) (da := da) (db := db) HO.out HNS.out HVAL.out HBEL.out HSZ.out HZL.out (by omega) HZX.out hown' hgrow)
          clear hown' hgrow
          go_wp2
          go_roundw
          case rel => exact ⟨k + 1, 0, by omega, by go_num, rfl, HN⟩
          case measure => simp [intOf]; omega
    · have hka : ¬ (k : Int) < (n : Int) := by omega
      obtain rfl : k = n := by omega
      have hc2 := min_end HVAL.out HC.out (vd_lt HNS.out) HLE.out (pad_le db m k)
      have R := made_of (Nat.le_refl _) HO.out HN0.out HNS.out HBEL.out
      have hpe : vd (pad db m) k = vd db m := by
        by_cases q : m ≤ k
        · exact vd_pad _ _ _ q
        · have h5 := vd_small (d := db) (n := k) (m := m) (Nat.lt_of_le_of_lt HLE.out (vd_lt Ha.out))
          rw [vd_full (d := db) k m h5 (by omega)]
          exact vd_congr (fun j hj => by simp only [pad]; rw [if_pos (by omega)])
      have hfin : vd ns k = vd da k - vd db m := by have := HVAL.out; rw [hc2, hpe] at this; omega
      rw [hfin] at R
      have HR := Lib.hid R
      clear R hfin hpe hc2
      go_wp2
      go_ret
      exact HR.out
end Go.Proofs.YtmhgnlngcjckbaaDoor
namespace Go.Proofs.YtmhgnlngcjckbaaDoor
open Go.RowKit

/-- The digits with one more below them. -/
def below1 (x : Nat) (d : Nat → Nat) (j : Nat) : Nat := if j = 0 then x else d (j - 1)
theorem vd_below1 (x : Nat) (d : Nat → Nat) : ∀ n, vd (below1 x d) (n + 1) = x + 65536 * vd d n
  | 0 => by simp [vd, below1]
  | n + 1 => by
    rw [vd, vd_below1 x d n, vd, Nat.mul_add, ← Nat.mul_assoc, Nat.pow_succ, Nat.mul_comm (65536 ^ n) 65536]
    simp only [below1]
    rw [if_neg (by omega), Nat.add_sub_cancel, Nat.add_assoc]
theorem below1_lt {x n : Nat} {d : Nat → Nat} (hx : x < 65536) (hd : ∀ j, j < n → d j < 65536) : ∀ j, j < n + 1 → below1 x d j < 65536 := fun j hj => by
  unfold below1; split
  · exact hx
  · exact hd _ (by omega)
theorem dl_below1 (x : Nat) (d : Nat → Nat) (n : Nat) : Value.int .u64 (x : Nat) :: dl d n = dl (below1 x d) (1 + n) := by
  unfold dl
  rw [Nat.add_comm 1 n, List.range_succ_eq_map, List.map_cons, List.map_map]
  rfl

/-- What the inner rounds keep: c bits are still to come of the digit i. -/
structure DivR (w : World) (n m i c : Nat) (da q : Nat → Nat) (D : Nat) (Q g nr : Nat) (dr : Nat → Nat) (wr : World) : Prop where
  old : Below w.heap.size w wr
  rest : Dg wr g nr dr
  apart : w.heap.size < g
  hQ : Q = w.heap.size
  restl : ∀ j, j < nr → dr j < 65536
  long : nr ≤ m + 1
  out : OutAt wr Q n q
  outl : ∀ j, j < n → q j < 65536
  todo : ∀ j, j < i → q j = 0
  bits : q i % 2 ^ c = 0
  sum : vd q n * D + (vd da i + 65536 ^ i * vd dr nr) = vd da n
  less : vd dr nr < 2 ^ c * D
theorem DivR.gQ {w wr : World} {n m i c D Q g nr : Nat} {da q dr : Nat → Nat} (h : DivR w n m i c da q D Q g nr dr wr) : g ≠ Q := by have h1 := h.apart; have h2 := h.hQ; omega

theorem OutAt.below {wr w' : World} {B L : Nat} {o : Nat → Nat} (h : OutAt wr B L o) (hb : Below wr.heap.size wr w') : OutAt w' B L o :=
  ⟨Nat.lt_of_lt_of_le h.1 hb.size, fun j hj => ⟨(hb.cell (p := ⟨B, j, none⟩) h.1).trans (h.2 j hj).1, (hb.frozen (p := ⟨B, j, none⟩) h.1).trans (h.2 j hj).2⟩⟩
theorem div_no {r c D : Nat} (h : ¬ 2 ^ c * D ≤ r) : r < 2 ^ c * D := by omega
theorem bits_half {x c : Nat} (h : x % 2 ^ (c + 1) = 0) : x % 2 ^ c = 0 := by
  rw [Nat.pow_succ] at h
  have h1 : x % (2 ^ c * 2) % 2 ^ c = x % 2 ^ c := Nat.mod_mul_right_mod _ _ _
  rw [h, Nat.zero_mod] at h1
  exact h1.symm
theorem bits_more {x c : Nat} (h : x % 2 ^ (c + 1) = 0) : (x + 2 ^ c) % 2 ^ c = 0 := by rw [Nat.add_mod_right]; exact bits_half h
theorem bits_room {x c : Nat} (h : x % 2 ^ (c + 1) = 0) (hx : x < 65536) (hc : c < 16) : x + 2 ^ c < 65536 := by
  have hp := Nat.two_pow_pos c
  obtain ⟨k, hk⟩ := Nat.dvd_of_mod_eq_zero h
  have hd : (65536 : Nat) = 2 ^ (c + 1) * 2 ^ (15 - c) := by rw [← Nat.pow_add, show c + 1 + (15 - c) = 16 by omega]
  have hk2 : k < 2 ^ (15 - c) := by
    rw [hk, hd] at hx
    exact Nat.lt_of_mul_lt_mul_left hx
  have h3 : 2 ^ (c + 1) * (k + 1) ≤ 2 ^ (c + 1) * 2 ^ (15 - c) := Nat.mul_le_mul_left _ hk2
  rw [← hd, Nat.mul_add, ← hk, Nat.pow_succ] at h3
  omega
theorem bits_or_up {x c : Nat} (h : x % 2 ^ (c + 1) = 0) (hx : x < 65536) (hc : c < 16) : bits .or .u64 (x : Int) (2 ^ c) = ((x + 2 ^ c : Nat) : Int) := by
  have hp : 2 ^ c < 65536 := by
    rw [show (65536 : Nat) = 2 ^ 16 by rfl]; exact Nat.pow_lt_pow_right (by omega) hc
  have h1 := bits_or_u64_nat x (2 ^ c) (by omega) (by omega)
  have e0 : ((2 ^ c : Nat) : Int) = 2 ^ c := by simp
  rw [e0] at h1
  rw [h1]
  congr 1
  obtain ⟨k, hk⟩ := Nat.dvd_of_mod_eq_zero h
  rw [hk, ← Nat.two_pow_add_eq_or_of_lt (Nat.pow_lt_pow_right (by omega) (Nat.lt_succ_self c))]
theorem div_sum {V q r i' R D A P t D' : Nat} (h : q * D + (A + P * r) = V) (hr : r = R + D') (hD' : D' = t * D) (hi : i' = q + P * t) : i' * D + (A + P * R) = V := by
  subst hi hD' hr
  rw [← h]; grind
/-- .. one bit less. -/
theorem DivR.zero {w wr : World} {n m i c D Q g nr : Nat} {da q dr : Nat → Nat} (h : DivR w n m i (c + 1) da q D Q g nr dr wr) {w' : World} (hb : Below wr.heap.size wr w') (hl : ¬ 2 ^ c * D ≤ vd dr nr) : DivR w n m i c da q D Q g nr dr w' :=
  ⟨h.old.trans (hb.mono h.old.size), h.rest.below hb, h.apart, h.hQ, h.restl, h.long, h.out.below hb, h.outl, h.todo, bits_half h.bits, h.sum, div_no hl⟩
theorem DivR.one {w wr : World} {n m i c D Q g nr : Nat} {da q dr : Nat → Nat} (h : DivR w n m i (c + 1) da q D Q g nr dr wr) {w' : World} {g' : Nat} {dr' : Nat → Nat} (hi : i < n) (hc : c < 16) (hb : Below wr.heap.size wr w') (hl : 2 ^ c * D ≤ vd dr nr)
    (hr : Dg w' g' nr dr') (hg : wr.heap.size ≤ g') (hrl : ∀ j, j < nr → dr' j < 65536) (hv : vd dr' nr = vd dr nr - 2 ^ c * D) :
    DivR w n m i c da (upd q i (q i + 2 ^ c)) D Q g' nr dr' (w'.setCell ⟨Q, i, none⟩ (.int .u64 ((q i + 2 ^ c : Nat) : Int))) := by
  have hlt := h.out.1
  have hroom := bits_room h.bits (h.outl i hi) hc
  have hq := vd_set q i (q i + 2 ^ c) n hi
  have hQg : g' ≠ Q := by omega
  refine ⟨(h.old.trans (hb.mono h.old.size)).setCell (by show w.heap.size ≤ Q; rw [h.hQ]; exact Nat.le_refl _) _, ⟨by simpa using hr.1, fun j hj => ?_⟩, by have := h.old.size; have := h.hQ; omega, h.hQ, hrl, h.long, ?_, fun j hj => ?_, fun j hj => ?_, ?_, ?_, ?_⟩
  · rw [World.cell?_setCell_other _ _ _ _ (fun e => hQg (congrArg Addr.block e).symm)]; exact hr.2 j hj
  · exact (h.out.below hb).set i _ hi
  · unfold upd; split
    · exact hroom
    · exact h.outl j hj
  · unfold upd; rw [if_neg (by omega)]; exact h.todo j hj
  · simp only [upd]; rw [if_pos trivial]; exact bits_more h.bits
  · refine div_sum h.sum (r := vd dr nr) (R := vd dr' nr) (D' := 2 ^ c * D) (t := 2 ^ c) (by omega) rfl ?_
    rw [Nat.mul_add] at hq; omega
  · rw [hv]
    have h1 := h.less
    rw [Nat.pow_succ, Nat.mul_comm (2 ^ c) 2, Nat.mul_assoc] at h1
    omega
end Go.Proofs.YtmhgnlngcjckbaaDoor
namespace Go.Proofs.YtmhgnlngcjckbaaDoor
open Go.RowKit

theorem own_one (w : World) (x : Nat) : (w.alloc (.cells #[.int .u64 (x : Nat)] 22)).ownsRow w.heap.size 22 1 (.slice (some ⟨w.heap.size, 0, none⟩) 1 1) 1 [.int .u64 (x : Nat)] :=
  ⟨by simp, .inr ⟨w.heap.size, 1, #[.int .u64 (x : Nat)], rfl, Nat.le_refl _, heap_alloc_new _ _, Nat.le_refl _, by unfold maxLen; omega, by simp, by simp⟩⟩
theorem own_dg {w : World} {base k : Nat} {v : Value} {d : Nat → Nat} (h : w.ownsRow base 22 1 v k (dl d k)) (hk : 0 < k) : ∃ g cap, v = .slice (some ⟨g, 0, none⟩) k cap ∧ base ≤ g ∧ k ≤ cap ∧ Dg w g k d := by
  obtain ⟨-, h1⟩ := h
  rcases h1 with ⟨-, h0⟩ | ⟨g, cap, cur, rfl, hg, hc, hnc, hm, hcs, ht⟩
  · omega
  · refine ⟨g, cap, rfl, hg, hnc, (Array.getElem?_eq_some_iff.1 hc).1, fun j hj => ?_⟩
    rw [cell_of_row _ _ _ _ _ _ hc, ← dl_at d k j hj, ← ht]
    simp only [Nat.mul_one, List.getElem?_take, hj, if_true]
    simp
theorem slice_head (g len cap h : Nat) (hh : (h : Int) + 1 ≤ cap) (w : World) : (Instr.slice 38 (.slice (some ⟨g, 0, none⟩) len cap) none (some (.int .i64 ((h : Int) + 1))) none).run Tryd.prog w = .ok (.slice (some ⟨g, 0, none⟩) (h + 1) cap) w := by
  have hsz : (sizeOf (Tryd.prog.elem 38)).run Tryd.prog w = .ok 1 w := by kernel_rfl
  rw [run_slice_h w 38 (some ⟨g, 0, none⟩) len cap (by kernel_rfl) .i64 _ (by omega) hh, hsz]
  simp only [Result.andThen, sliced]
  rw [show ((h : Int) + 1).toNat = h + 1 by omega]
  simp [Addr.add]
theorem div_open {w wr w1 : World} {n m i D Q g nr g' nr' : Nat} {da q dr : Nat → Nat} (h : DivR w n m (i + 1) 0 da q D Q g nr dr wr) (hb : Below wr.heap.size wr w1) (hg : wr.heap.size ≤ g') (hr : Dg w1 g' nr' (below1 (da i) dr)) (hda : da i < 65536) (hD : D ≤ 65536 ^ m)
    (hn : nr' = 1 + nr ∨ nr' = m + 1 ∧ nr' ≤ 1 + nr) (hl : nr' ≤ m + 1) : DivR w n m i 16 da q D Q g' nr' (below1 (da i) dr) w1 := by
  have hlt := h.out.1
  have hless := h.less
  rw [Nat.pow_zero, Nat.one_mul] at hless
  have hv : vd (below1 (da i) dr) (1 + nr) = da i + 65536 * vd dr nr := by rw [Nat.add_comm 1 nr]; exact vd_below1 _ _ _
  have hlim : da i + 65536 * vd dr nr < 65536 * D := by omega
  have hv2 : vd (below1 (da i) dr) nr' = da i + 65536 * vd dr nr := by
    rcases hn with rfl | ⟨rfl, hle⟩
    · exact hv
    · rw [← hv]
      refine (vd_full (m + 1) (1 + nr) (vd_small ?_) hle).symm
      rw [hv, Nat.pow_succ, Nat.mul_comm (65536 ^ m)]
      exact Nat.lt_of_lt_of_le hlim (Nat.mul_le_mul_left _ hD)
  have hle2 : nr' ≤ nr + 1 := by rcases hn with rfl | ⟨-, h⟩ <;> omega
  refine ⟨h.old.trans (hb.mono h.old.size), hr, by have := h.old.size; have := h.hQ; omega, h.hQ, fun j hj => below1_lt hda h.restl j (by omega), hl, h.out.below hb, h.outl, fun j hj => h.todo j (by omega), by rw [h.todo i (by omega)], ?_, ?_⟩
  · have hs := h.sum
    rw [hv2, ← hs]
    simp only [vd]
    rw [Nat.mul_add, Nat.pow_succ, Nat.mul_assoc, Nat.add_assoc (vd da i)]
  · rw [hv2]; exact hlim
theorem dg_one (w : World) (x : Nat) : Dg (w.alloc (.cells #[.int .u64 (x : Nat)] 22)) w.heap.size 1 (fun _ => x) :=
  ⟨by simp, fun j hj => by obtain rfl : j = 0 := (by omega); exact (cell_of_row _ _ 0 _ _ _ (heap_alloc_new _ _)).trans rfl⟩

theorem news_dl {w : World} {g nr : Nat} {dr : Nat → Nat} (h : Dg w g nr dr) : ∀ j u, (dl dr nr)[j]? = some u → w.cell? ((⟨g, 0, none⟩ : Addr).add j) = some u := fun j u hj => by
  have hj2 : j < nr := by
    have := (List.getElem?_eq_some_iff.1 hj).1
    rwa [dl_len] at this
  rw [dl_at _ _ _ hj2] at hj
  cases hj
  have h := h.2 j hj2
  cases j with
  | zero => simpa [Addr.add] using h
  | succ j => simpa [Addr.add] using h
theorem one_dl (dr : Nat → Nat) (nr : Nat) : ∀ u ∈ dl dr nr, u.oneCell' = true := fun u hu => by
  unfold dl at hu
  rw [List.mem_map] at hu
  obtain ⟨j, -, rfl⟩ := hu
  rfl

/-- What Divide leaves. -/
def DivPostR (n m : Nat) (A D : Nat) (w : World) (e : Ending) (w' : World) : Prop :=
  ∃ (Q g nr cap : Nat) (q dr : Nat → Nat), e = .returned (.tuple #[.slice (some ⟨Q, 0, none⟩) n n, .slice (some ⟨g, 0, none⟩) nr cap]) ∧ Dg w' Q n q ∧ Dg w' g nr dr ∧ nr ≤ m + 1 ∧ (∀ j, j < n → q j < 65536) ∧ (∀ j, j < nr → dr j < 65536) ∧ vd q n = A / D ∧ vd dr nr = A % D ∧ Below w.heap.size w w'
theorem div_done {w wr : World} {n m D Q g nr : Nat} {da q dr : Nat → Nat} (h : DivR w n m 0 0 da q D Q g nr dr wr) : vd q n = vd da n / D ∧ vd dr nr = vd da n % D := by
  have h1 := h.sum
  have h2 := h.less
  simp only [vd, Nat.pow_zero, Nat.one_mul, Nat.zero_add] at h1 h2
  constructor
  · rw [← h1, Nat.add_comm, Nat.mul_comm, Nat.add_mul_div_left _ _ (by omega), Nat.div_eq_of_lt h2, Nat.zero_add]
  · rw [← h1, Nat.add_comm, Nat.mul_comm, Nat.add_mul_mod_self_left, Nat.mod_eq_of_lt h2]

set_option maxRecDepth 100000 in
set_option maxHeartbeats 4000000 in
theorem divide_ref (ba ca bb cb n m : Nat) (da db : Nat → Nat) (hn : (n : Int) ≤ 1000) (hm : (m : Int) ≤ 1000) (ha : ∀ j, j < n → da j < 65536) (hb : ∀ j, j < m → db j < 65536) (hD : 0 < vd db m) (w : World) (hA : Dg w ba n da) (hB : Dg w bb m db) :
    Calls Tryd.prog 44 #[.slice (some ⟨ba, 0, none⟩) n ca, .slice (some ⟨bb, 0, none⟩) m cb] w (DivPostR n m (vd da n) (vd db m) w) := by
  have Ha := Lib.hid ha; clear ha
  have hDm := Nat.le_of_lt (vd_lt hb)
  have Hb := Lib.hid hb; clear hb
  have HA := Lib.hid hA; clear hA
  have HB := Lib.hid hB; clear hB
  have HD := Lib.hid hD; clear hD
  have HDM := Lib.hid hDm; clear hDm
  have hn0 : (0 : Int) ≤ n := by omega
  have hm0 : (0 : Int) ≤ m := by omega
  obtain ⟨i0, hi, hz0, hz1, hz2⟩ := info_parts info22
  go_enter Tryd.func44, Tryd.ntmps44
  go_wp2_with (at_make; refine wpList_make_full _ rfl _ _ 38 rfl w.heap.size 22 i0 (.int .u64 0) 1 Tryd.underlying38 hi hz0 hz1 .i64 .i64 _ _ n rfl rfl rfl rfl (by rw [hz2]; omega) (by unfold maxLen; omega) (Nat.le_refl _) ?_; intro w0 hown0 hgrow0)
  have hout : OutAt w0 w.heap.size n (fun _ => 0) := ⟨(hown0.lt _ rfl).2, fun j hj => ⟨(hown0.cellAt j (by omega)).trans (madeCells_at n j hj), hown0.frozenAt j⟩⟩
  have hbel : Below w.heap.size w w0 := (Below.refl _ _).grown hgrow0 (Nat.le_refl _) (fun k hk => by cases hk)
  have hlt0 := hout.1
  have HW := Lib.hid (And.intro hout hbel)
  clear hout hbel hown0 hgrow0
  go_wp2_with fail
  go_loopw [7, 8] (fun rv iv wr => ∃ (z : Int) (c g nr cap : Nat) (q dr : Nat → Nat), c ≤ n ∧ z = (c : Int) - 1 ∧ iv = .int .i64 z ∧ rv = .slice (some ⟨g, 0, none⟩) nr cap ∧ Hid (DivR w n m c 0 da q (vd db m) w.heap.size g nr dr wr)) (fun _ iv _ => (intOf iv + 1).toNat)
  case atStart =>
    refine ⟨(n : Int) - 1, n, w0.heap.size, 0, 0, fun _ => 0, fun _ => 0, Nat.le_refl _, rfl, rfl, rfl, Lib.hid ⟨HW.out.2.trans (by go_grown), ⟨by simp, fun j hj => by omega⟩, hlt0, rfl, fun j hj => by omega, by omega, HW.out.1.below (by go_grown), fun j _ => by show 0 < 65536; omega, fun _ _ => rfl, rfl, ?_, ?_⟩⟩
    · have : ∀ L, vd (fun _ => 0) L = 0 := fun L => by induction L with
        | zero => rfl
        | succ L ih => simp [vd, ih]
      rw [this]; simp [vd]
    · show 0 < _; rw [Nat.pow_zero, Nat.one_mul]; exact HD.out
  case round =>
    obtain ⟨z, c, g, nr, cap, q, dr, hc, hz, rfl, rfl, H⟩ := hrel
    cases c with
    | zero =>
      have hz1 : z < 0 := by omega
      have hzf : decide (0 ≤ z) = false := by rw [decide_eq_false_iff_not]; omega
      have hd := div_done H.out
      have HF := Lib.hid hd; clear hd
      have HZ := Lib.hid hz; clear hz
      go_wp2
      go_ret2
      exact ⟨_, _, _, _, q, dr, rfl, ⟨H.out.out.1, fun j hj => (H.out.out.2 j hj).1⟩, H.out.rest, H.out.long, H.out.outl, H.out.restl, HF.out.1, HF.out.2, H.out.old⟩
    | succ i =>
      obtain rfl : z = (i : Int) := by omega
      have hi0 : (0 : Int) ≤ i := by omega
      have hin : (i : Int) < n := by omega
      have hnr : (nr : Int) ≤ m + 1 := by have := H.out.long; omega
      have hnr0 : (0 : Int) ≤ nr := by omega
      have ea : wr.cell? ⟨ba, i, none⟩ = some (.int .u64 (da i : Nat)) := (H.out.old.cell (p := ⟨ba, i, none⟩) HA.out.1).trans (HA.out.2 i (by omega))
      have HEN := Lib.hid (own_one wr (da i))
      clear hz
      go_wp2_with (at_builtin; refine wpList_append_own _ rfl (.tmp 26) (.tmp 27) 38 rfl wr.heap.size 22 i0 (.int .u64 0) 1 8 Tryd.underlying38 hi hz0 hz1 hz2 rfl (by decide) _ _ _ rfl HEN.out ⟨g, 0, none⟩ nr cap (dl dr nr) rfl (by rw [dl_len, Nat.mul_one]) ?d1 ?d2 ?d3 ?d4 ?d5 ?_)
      try (case d1 => exact news_dl (H.out.rest.below ((Below.refl wr.heap.size wr).alloc (Nat.le_refl _) (.cells #[.int .u64 (da i : Nat)] 22))))
      try (case d2 => exact one_dl _ _)
      try (case d3 => unfold maxLen; omega)
      try (case d4 => omega)
      try (case d5 => first | omega | (simp; done) | (simp; omega))
      intro v' w1 hown' hgrow _
      rw [dl_below1] at hown'
      obtain ⟨g', cap', rfl, hg', hcap', hdg'⟩ := own_dg hown' (by omega)
      have hbw : Below wr.heap.size wr w1 := ((Below.refl _ _).alloc (Nat.le_refl _) _).grown hgrow (by simp) (fun j hj => by cases hj; exact Nat.le_refl _)
      have HN := Lib.hid (And.intro hbw (And.intro hg' hdg'))
      clear hown' hgrow hg' hdg' hbw HEN ea
      have hda : da i < 65536 := Ha.out i (by omega)
      by_cases ht : m + 1 < 1 + nr
      · have ht1 : (m : Int) + 1 < 1 + (nr : Int) := by omega
        have ht2 : decide ((m : Int) + 1 < 1 + (nr : Int)) = true := by rw [decide_eq_true_iff]; exact ht1
        have hsl := slice_head g' (1 + nr) cap' m (by omega)
        have HI := Lib.hid (div_open H.out HN.out.1 HN.out.2.1 ⟨HN.out.2.2.1, fun j hj => HN.out.2.2.2 j (by omega)⟩ hda HDM.out (.inr ⟨rfl, by omega⟩) (Nat.le_refl (m + 1)))
        clear ht hda
        go_wp2_with fail
        go_loopw [7, 9] (fun rv kv wx => ∃ (z : Int) (c g nr cap : Nat) (q dr : Nat → Nat), c ≤ 16 ∧ z = (c : Int) - 1 ∧ kv = .int .i64 z ∧ rv = .slice (some ⟨g, 0, none⟩) nr cap ∧ 0 < nr ∧ Hid (DivR w n m i c da q (vd db m) w.heap.size g nr dr wx)) (fun _ kv _ => (intOf kv + 1).toNat)
        case atStart => exact ⟨15, 16, g', (m + 1), cap', q, below1 (da i) dr, by omega, rfl, rfl, rfl, by omega, HI⟩
        case round =>
          obtain ⟨z, c2, g2, nr2, cap2, q2, dr2, hc2, hz2, rfl, rfl, hnr2, H2⟩ := hrel
          cases c2 with
          | zero =>
            have hz1 : z < 0 := by omega
            have hzf : decide (0 ≤ z) = false := by rw [decide_eq_false_iff_not]; omega
            have HZ := Lib.hid hz2; clear hz2
            go_wp2_with fail
            go_roundw
            case rel => exact ⟨(i : Int) - 1, i, g2, nr2, cap2, q2, dr2, by omega, rfl, rfl, rfl, H2⟩
            case measure => first | (simp [intOf]; done) | (simp [intOf]; omega)
          | succ k =>
            obtain rfl : z = (k : Int) := by omega
            have hk0 : (0 : Int) ≤ k := by omega
            have hk1 : (k : Int) ≤ 15 := by omega
            clear hz2
            obtain ⟨p, hp⟩ : ∃ p : Nat, 2 ^ k = p := ⟨_, rfl⟩
            have hpl : p < 65536 := by rw [← hp, show (65536 : Nat) = 2 ^ 16 by rfl]; exact Nat.pow_lt_pow_right (by omega) (by omega)
            have hpw : IntKind.u64.wrap ((2 : Int) ^ k) = (p : Int) := by
              have e0 : ((2 ^ k : Nat) : Int) = (2 : Int) ^ k := by simp
              rw [← e0, hp, IntKind.wrap_u64]; omega
            have hqi := H2.out.out.2 i (by omega)
            have hor : bits .or .u64 ((q2 i : Nat) : Int) (p : Int) = ((q2 i + p : Nat) : Int) := by
              have h := bits_or_up H2.out.bits (H2.out.outl i (by omega)) (by omega)
              have e0 : ((2 ^ k : Nat) : Int) = (2 : Int) ^ k := by simp
              rw [← e0, hp] at h; exact h
            have HOR := Lib.hid hor; clear hor
            have HQI := Lib.hid hqi; clear hqi
            have HPL := Lib.hid hpl; clear hpl
            have HP := Lib.hid hp; clear hp
            have hlw : w.heap.size < wr.heap.size := H2.out.out.1
            go_wp2_with fail
            refine (product_digits bb cb wr.heap.size 1 m 1 db (fun _ => p) (by omega) (by omega) Hb.out (fun _ _ => HPL.out) _ (HB.out.below (H2.out.old.trans ((Below.refl _ _).alloc (by omega) _))) (dg_one wr p)).mono ?_
            rintro e w2 ⟨bt, capt, dt, rfl, hbt, hDt, hdtl, hdtv, hbp⟩
            have hvt : vd dt (m + 1) = 2 ^ k * vd db m := by rw [hdtv, HP.out]; simp [vd, Nat.mul_comm]
            have hb1 : Below wr.heap.size wr w2 := ((Below.refl _ _).alloc (Nat.le_refl _) _).trans (hbp.mono (by simp))
            have HT := Lib.hid (And.intro hDt (And.intro hdtl (And.intro hvt hb1)))
            clear hbt hDt hdtl hdtv hbp hvt hb1
            have HR2 := Lib.hid (H2.out.rest.below HT.out.2.2.2)
            have hnl : (nr2 : Int) ≤ m + 1 := by have := H2.out.long; omega
            by_cases hle : 2 ^ k * vd db m ≤ vd dr2 nr2
            · have hbo : decide (vd dr2 nr2 < vd dt (m + 1)) = false := by rw [decide_eq_false_iff_not, HT.out.2.2.1]; omega
              have HLE := Lib.hid hle; clear hle
              go_wp2_with fail
              refine (less_any g2 cap2 bt capt nr2 (m + 1) dr2 dt (by omega) (by omega) H2.out.restl HT.out.2.1 w2 HR2.out HT.out.1).mono ?_
              rintro e w3 ⟨rfl, rfl⟩
              rw [hbo]
              go_wp2_with fail
              refine (minus_any g2 cap2 bt capt nr2 (m + 1) dr2 dt hnr2 (by omega) (by omega) H2.out.restl HT.out.2.1 (by rw [HT.out.2.2.1]; exact HLE.out) w2 HR2.out HT.out.1).mono ?_
              rintro e w4 ⟨b4, cap4, d4, rfl, hb4, hD4, hd4l, hd4v, hbm⟩
              have hb2 : Below wr.heap.size wr w4 := HT.out.2.2.2.trans (hbm.mono HT.out.2.2.2.size)
              have hcq : w4.cell? ⟨w.heap.size, i, none⟩ = some (.int .u64 (q2 i : Nat)) := (hb2.cell (p := ⟨w.heap.size, i, none⟩) hlw).trans HQI.out.1
              have hfq : w4.frozen? ⟨w.heap.size, i, none⟩ = false := (hb2.frozen (p := ⟨w.heap.size, i, none⟩) hlw).trans HQI.out.2
              have hone := H2.out.one (w' := w4) (g' := b4) (dr' := d4) (by omega) (by omega) hb2 HLE.out hD4 (Nat.le_trans HT.out.2.2.2.size hb4) hd4l (by rw [hd4v, HT.out.2.2.1])
              rw [HP.out] at hone
              have HONE := Lib.hid hone; clear hone hb4 hD4 hd4l hd4v hbm hb2
              go_wp2_with fail
              rw [HOR.out]
              go_roundw
              case rel => exact ⟨(k : Int) - 1, k, b4, nr2, cap4, _, d4, by omega, rfl, rfl, rfl, hnr2, HONE⟩
              case measure => first | (simp [intOf]; done) | (simp [intOf]; omega)
            · have hbo : decide (vd dr2 nr2 < vd dt (m + 1)) = true := by rw [decide_eq_true_iff, HT.out.2.2.1]; omega
              have HZ := Lib.hid (H2.out.zero HT.out.2.2.2 hle)
              clear hle
              go_wp2_with fail
              refine (less_any g2 cap2 bt capt nr2 (m + 1) dr2 dt (by omega) (by omega) H2.out.restl HT.out.2.1 w2 HR2.out HT.out.1).mono ?_
              rintro e w3 ⟨rfl, rfl⟩
              rw [hbo]
              go_wp2_with fail
              go_roundw
              case rel => exact ⟨(k : Int) - 1, k, g2, nr2, cap2, q2, dr2, by omega, rfl, rfl, rfl, hnr2, HZ⟩
              case measure => first | (simp [intOf]; done) | (simp [intOf]; omega)
      · have ht1 : ¬ (m : Int) + 1 < 1 + (nr : Int) := by omega
        have ht2 : decide ((m : Int) + 1 < 1 + (nr : Int)) = false := by rw [decide_eq_false_iff_not]; exact ht1
        have HI := Lib.hid (div_open H.out HN.out.1 HN.out.2.1 HN.out.2.2 hda HDM.out (.inl rfl) (by omega))
        clear ht hda
        go_wp2_with fail
        go_loopw [7, 9] (fun rv kv wx => ∃ (z : Int) (c g nr cap : Nat) (q dr : Nat → Nat), c ≤ 16 ∧ z = (c : Int) - 1 ∧ kv = .int .i64 z ∧ rv = .slice (some ⟨g, 0, none⟩) nr cap ∧ 0 < nr ∧ Hid (DivR w n m i c da q (vd db m) w.heap.size g nr dr wx)) (fun _ kv _ => (intOf kv + 1).toNat)
        case atStart => exact ⟨15, 16, g', (1 + nr), cap', q, below1 (da i) dr, by omega, rfl, rfl, rfl, by omega, HI⟩
        case round =>
          obtain ⟨z, c2, g2, nr2, cap2, q2, dr2, hc2, hz2, rfl, rfl, hnr2, H2⟩ := hrel
          cases c2 with
          | zero =>
            have hz1 : z < 0 := by omega
            have hzf : decide (0 ≤ z) = false := by rw [decide_eq_false_iff_not]; omega
            have HZ := Lib.hid hz2; clear hz2
            go_wp2_with fail
            go_roundw
            case rel => exact ⟨(i : Int) - 1, i, g2, nr2, cap2, q2, dr2, by omega, rfl, rfl, rfl, H2⟩
            case measure => first | (simp [intOf]; done) | (simp [intOf]; omega)
          | succ k =>
            obtain rfl : z = (k : Int) := by omega
            have hk0 : (0 : Int) ≤ k := by omega
            have hk1 : (k : Int) ≤ 15 := by omega
            clear hz2
            obtain ⟨p, hp⟩ : ∃ p : Nat, 2 ^ k = p := ⟨_, rfl⟩
            have hpl : p < 65536 := by rw [← hp, show (65536 : Nat) = 2 ^ 16 by rfl]; exact Nat.pow_lt_pow_right (by omega) (by omega)
            have hpw : IntKind.u64.wrap ((2 : Int) ^ k) = (p : Int) := by
              have e0 : ((2 ^ k : Nat) : Int) = (2 : Int) ^ k := by simp
              rw [← e0, hp, IntKind.wrap_u64]; omega
            have hqi := H2.out.out.2 i (by omega)
            have hor : bits .or .u64 ((q2 i : Nat) : Int) (p : Int) = ((q2 i + p : Nat) : Int) := by
              have h := bits_or_up H2.out.bits (H2.out.outl i (by omega)) (by omega)
              have e0 : ((2 ^ k : Nat) : Int) = (2 : Int) ^ k := by simp
              rw [← e0, hp] at h; exact h
            have HOR := Lib.hid hor; clear hor
            have HQI := Lib.hid hqi; clear hqi
            have HPL := Lib.hid hpl; clear hpl
            have HP := Lib.hid hp; clear hp
            have hlw : w.heap.size < wr.heap.size := H2.out.out.1
            go_wp2_with fail
            refine (product_digits bb cb wr.heap.size 1 m 1 db (fun _ => p) (by omega) (by omega) Hb.out (fun _ _ => HPL.out) _ (HB.out.below (H2.out.old.trans ((Below.refl _ _).alloc (by omega) _))) (dg_one wr p)).mono ?_
            rintro e w2 ⟨bt, capt, dt, rfl, hbt, hDt, hdtl, hdtv, hbp⟩
            have hvt : vd dt (m + 1) = 2 ^ k * vd db m := by rw [hdtv, HP.out]; simp [vd, Nat.mul_comm]
            have hb1 : Below wr.heap.size wr w2 := ((Below.refl _ _).alloc (Nat.le_refl _) _).trans (hbp.mono (by simp))
            have HT := Lib.hid (And.intro hDt (And.intro hdtl (And.intro hvt hb1)))
            clear hbt hDt hdtl hdtv hbp hvt hb1
            have HR2 := Lib.hid (H2.out.rest.below HT.out.2.2.2)
            have hnl : (nr2 : Int) ≤ m + 1 := by have := H2.out.long; omega
            by_cases hle : 2 ^ k * vd db m ≤ vd dr2 nr2
            · have hbo : decide (vd dr2 nr2 < vd dt (m + 1)) = false := by rw [decide_eq_false_iff_not, HT.out.2.2.1]; omega
              have HLE := Lib.hid hle; clear hle
              go_wp2_with fail
              refine (less_any g2 cap2 bt capt nr2 (m + 1) dr2 dt (by omega) (by omega) H2.out.restl HT.out.2.1 w2 HR2.out HT.out.1).mono ?_
              rintro e w3 ⟨rfl, rfl⟩
              rw [hbo]
              go_wp2_with fail
              refine (minus_any g2 cap2 bt capt nr2 (m + 1) dr2 dt hnr2 (by omega) (by omega) H2.out.restl HT.out.2.1 (by rw [HT.out.2.2.1]; exact HLE.out) w2 HR2.out HT.out.1).mono ?_
              rintro e w4 ⟨b4, cap4, d4, rfl, hb4, hD4, hd4l, hd4v, hbm⟩
              have hb2 : Below wr.heap.size wr w4 := HT.out.2.2.2.trans (hbm.mono HT.out.2.2.2.size)
              have hcq : w4.cell? ⟨w.heap.size, i, none⟩ = some (.int .u64 (q2 i : Nat)) := (hb2.cell (p := ⟨w.heap.size, i, none⟩) hlw).trans HQI.out.1
              have hfq : w4.frozen? ⟨w.heap.size, i, none⟩ = false := (hb2.frozen (p := ⟨w.heap.size, i, none⟩) hlw).trans HQI.out.2
              have hone := H2.out.one (w' := w4) (g' := b4) (dr' := d4) (by omega) (by omega) hb2 HLE.out hD4 (Nat.le_trans HT.out.2.2.2.size hb4) hd4l (by rw [hd4v, HT.out.2.2.1])
              rw [HP.out] at hone
              have HONE := Lib.hid hone; clear hone hb4 hD4 hd4l hd4v hbm hb2
              go_wp2_with fail
              rw [HOR.out]
              go_roundw
              case rel => exact ⟨(k : Int) - 1, k, b4, nr2, cap4, _, d4, by omega, rfl, rfl, rfl, hnr2, HONE⟩
              case measure => first | (simp [intOf]; done) | (simp [intOf]; omega)
            · have hbo : decide (vd dr2 nr2 < vd dt (m + 1)) = true := by rw [decide_eq_true_iff, HT.out.2.2.1]; omega
              have HZ := Lib.hid (H2.out.zero HT.out.2.2.2 hle)
              clear hle
              go_wp2_with fail
              refine (less_any g2 cap2 bt capt nr2 (m + 1) dr2 dt (by omega) (by omega) H2.out.restl HT.out.2.1 w2 HR2.out HT.out.1).mono ?_
              rintro e w3 ⟨rfl, rfl⟩
              rw [hbo]
              go_wp2_with fail
              go_roundw
              case rel => exact ⟨(k : Int) - 1, k, g2, nr2, cap2, q2, dr2, by omega, rfl, rfl, rfl, hnr2, HZ⟩
              case measure => first | (simp [intOf]; done) | (simp [intOf]; omega)
end Go.Proofs.YtmhgnlngcjckbaaDoor
namespace Go.Proofs.YtmhgnlngcjckbaaDoor
open Go.RowKit

def slots (a : Act) (t : Nat) : Value := a.tmps.getD t undef

theorem getD_set_same {listed : Array Bool} {i : Nat} (h : i < listed.size) : (listed.setIfInBounds i true).getD i false = true := by simp [h]

section
variable {P : Program} {ops : Array Oper} {Q : Exit → Act → World → Prop} {C : World → Prop} {φ : Nat → (Nat → Value) → World → Prop} {R : World → World → Prop} {a0 : Act}

/-- What is known where an operation comes up. -/
def KnownT (ops : Array Oper) (φ : Nat → (Nat → Value) → World → Prop) (a0 : Act) (o : Oper) (a : Act) (w : World) : Prop :=
  (∀ t, isDst ops.toList t = false → a.tmps.getD t undef = a0.tmps.getD t undef) ∧ (∀ e ∈ o.after, Region.binds .any e = true → ∀ oj, ops[e.on]? = some oj → φ e.on (slots a) w)
def StepT (P : Program) (ops : Array Oper) (Q : Exit → Act → World → Prop) (C : World → Prop) (φ : Nat → (Nat → Value) → World → Prop) (R : World → World → Prop) (k : Nat) (o : Oper) (a : Act) (w : World) : Prop :=
  if Region.wanted o (yielded ops a.tmps) then o.wp P a w (fun a' w' => ∃ v, a' = a.put o.dst v ∧ C w' ∧ φ k (slots (a.put o.dst v)) w' ∧ R w w') Q else φ k (slots (a.put o.dst undef)) w
def StepsT (P : Program) (ops : Array Oper) (Q : Exit → Act → World → Prop) (C : World → Prop) (φ : Nat → (Nat → Value) → World → Prop) (R : World → World → Prop) (a0 : Act) : Nat → List Oper → Prop
  | _, [] => True
  | k, o :: l => (∀ a w, C w → a.tmps.size = a0.tmps.size → KnownT ops φ a0 o a w → StepT P ops Q C φ R k o a w) ∧ StepsT P ops Q C φ R a0 (k + 1) l
theorem StepsT.at_ : ∀ {l : List Oper} {k : Nat}, StepsT P ops Q C φ R a0 k l → ∀ (i : Nat) (o : Oper), l[i]? = some o → ∀ a w, C w → a.tmps.size = a0.tmps.size → KnownT ops φ a0 o a w → StepT P ops Q C φ R (k + i) o a w
  | [], _, _, i, o, hi => by simp at hi
  | o :: l, k, h, 0, o', hi => by simp at hi; subst hi; exact h.1
  | o :: l, k, h, i + 1, o', hi => by
    have := StepsT.at_ h.2 i o' (by simpa using hi)
    rwa [show k + 1 + i = k + (i + 1) by omega] at this

/-- There is a rank by which each operation stands behind those that it waits for. -/
def rankB (ops : Array Oper) (rk : Nat → Nat) : Bool := (List.range ops.size).all fun i => match ops[i]? with
  | some o => o.after.all fun e => !Region.binds .any e || decide (rk e.on < rk i)
  | none => true

def insideB (ops : Array Oper) : Bool := ops.all fun o => o.after.all fun e => decide (e.on < ops.size)
theorem inside_spec (h : insideB ops = true) (i : Nat) (o : Oper) (ho : ops[i]? = some o) (e : Edge) (he : e ∈ o.after) : e.on < ops.size := by
  unfold insideB at h
  simp only [Array.all_eq_true_iff_forall_mem, decide_eq_true_eq] at h
  exact h o (Array.mem_of_getElem? ho) e he

/-- Each operation's slots are its own and those of operations that it waits for. -/
def ownB (ops : Array Oper) (rd : Nat → List Nat) : Bool := (List.range ops.size).all fun i => match ops[i]? with
  | some o => (rd i).all fun t => o.dst == some t || !isDst ops.toList t || o.after.any fun e => Region.binds .any e && (match ops[e.on]? with | some oj => oj.dst == some t | none => false)
  | none => true
theorem own_spec {rd : Nat → List Nat} (h : ownB ops rd = true) {i : Nat} {o : Oper} (ho : ops[i]? = some o) {t : Nat} (ht : t ∈ rd i) :
    o.dst = some t ∨ isDst ops.toList t = false ∨ ∃ e ∈ o.after, Region.binds .any e = true ∧ ∃ oj, ops[e.on]? = some oj ∧ oj.dst = some t := by
  unfold ownB at h
  rw [List.all_eq_true] at h
  have h1 := h i (by simpa using (Array.getElem?_eq_some_iff.1 ho).1)
  rw [ho] at h1
  simp only [List.all_eq_true] at h1
  have h2 := h1 t ht
  simp only [Bool.or_eq_true, beq_iff_eq, Bool.not_eq_true'] at h2
  rcases h2 with (h2 | h2) | h2
  · exact .inl h2
  · exact .inr (.inl h2)
  · refine .inr (.inr ?_)
    rw [Array.any_eq_true] at h2
    obtain ⟨k, hk, h3⟩ := h2
    have he : o.after[k] ∈ o.after := Array.getElem_mem hk
    generalize o.after[k] = e at *
    rw [Bool.and_eq_true] at h3
    refine ⟨e, he, h3.1, ?_⟩
    have h4 := h3.2
    cases hj : ops[e.on]? with
    | none => rw [hj] at h4; cases h4
    | some oj => rw [hj] at h4; exact ⟨oj, rfl, by simpa using h4⟩

theorem wpAny_tie (rd : Nat → List Nat) (rk : Nat → Nat) (hdist : distinctB ops.toList = true) (hlex : rankB ops rk = true) (hon : ∀ (i : Nat) (o : Oper), ops[i]? = some o → ∀ e ∈ o.after, e.on < ops.size) (hown : ownB ops rd = true)
    (hrd : ∀ i s s' w, (∀ t ∈ rd i, s t = s' t) → φ i s w → φ i s' w)
    (hφ : ∀ i v w w', R w w' → φ i v w → φ i v w') (hst : StepsT P ops Q C φ R a0 0 ops.toList)
    (hQ : ∀ (f : Oper → Value) w, C w → (∀ i o, ops[i]? = some o → φ i (slots (putAll f ops.toList a0)) w) → Q .normal (putAll f ops.toList a0) w) :
    ∀ (fuel : Nat) (listed : Array Bool) (a : Act) (w : World), listed.size = ops.size → listed.toList.count false ≤ fuel → C w → a.tmps.size = a0.tmps.size → a.defers = a0.defers →
      (∀ t, isDst ops.toList t = false → a.tmps.getD t undef = a0.tmps.getD t undef) → (∀ i o, listed.getD i false = true → ops[i]? = some o → φ i (slots a) w ∧ ∀ e ∈ o.after, Region.binds .any e = true → listed.getD e.on false = true) → wpAny P .any ops Q fuel listed a w := by
  have done : ∀ (listed : Array Bool) (a : Act) (w : World), (∀ i, i < ops.size → listed.getD i false = true) → C w → a.tmps.size = a0.tmps.size → a.defers = a0.defers →
      (∀ t, isDst ops.toList t = false → a.tmps.getD t undef = a0.tmps.getD t undef) → (∀ i o, listed.getD i false = true → ops[i]? = some o → φ i (slots a) w ∧ ∀ e ∈ o.after, Region.binds .any e = true → listed.getD e.on false = true) → Q .normal a w := by
    intro listed a w hall hC hs hd hk hp
    have hb := put_back hs hd hk
    rw [hb]
    exact hQ _ w hC (fun i o ho => by rw [← hb]; exact (hp i o (hall i (Array.getElem?_eq_some_iff.1 ho).1) ho).1)
  intro fuel
  induction fuel with
  | zero =>
    intro listed a w hsz hc hC hs hd hk hp
    have hno : false ∉ listed.toList := List.count_eq_zero.1 (by omega)
    have hall : ∀ i, i < ops.size → listed.getD i false = true := fun i hi => by
      have hlt : i < listed.size := by omega
      have hm : listed[i] ∈ listed.toList := by simp
      simp only [Array.getD_eq_getD_getElem?, hlt, Array.getElem?_eq_getElem, Option.getD_some]
      cases h : listed[i] with
      | true => rfl
      | false => rw [h] at hm; exact absurd hm hno
    refine ⟨?_, done listed a w hall hC hs hd hk hp⟩
    rw [List.eq_nil_iff_forall_not_mem]
    intro j hj
    obtain ⟨h0, o, ho, -⟩ := mem_ready.1 hj
    have hlt := (Array.getElem?_eq_some_iff.1 ho).1
    have h1 := hall j hlt
    simp [show j < listed.size by omega] at h0 h1
    rw [h0] at h1
    cases h1
  | succ fuel ih =>
    intro listed a w hsz hc hC hs hd hk hp
    refine ⟨fun hr => ?_, fun i hi => ?_⟩
    · refine done listed a w ?_ hC hs hd hk hp
      -- the least that isn't listed would be ready
      have key : ∀ r i, rk i < r → i < ops.size → listed.getD i false = true := by
        intro r
        induction r with
        | zero => intro i h; omega
        | succ r ihr =>
          intro i hri hi
          cases h : listed.getD i false with
          | true => rfl
          | false =>
            have ho : ops[i]? = some ops[i] := Array.getElem?_eq_getElem hi
            have : i ∈ Region.ready .any ops listed := mem_ready.2 ⟨by simpa [show i < listed.size by omega] using h, ops[i], ho, fun e he hb => by
              have hl := hlex
              unfold rankB at hl
              rw [List.all_eq_true] at hl
              have := hl i (by simpa using hi)
              rw [ho] at this
              simp only [Array.all_eq_true_iff_forall_mem] at this
              have hlt := this e he
              rw [hb] at hlt
              simp at hlt
              exact ihr e.on (by omega) (hon i _ ho e he)⟩
            rw [hr] at this
            cases this
      exact fun i hi => key (rk i + 1) i (by omega) hi
    · obtain ⟨h0, o, ho, hall⟩ := mem_ready.1 hi
      have hlt : i < ops.size := (Array.getElem?_eq_some_iff.1 ho).1
      have hl' : ops.toList[i]? = some o := by simpa using ho
      have hstep := hst.at_ i o hl' a w hC hs ⟨hk, fun e he hb oj hj => (hp e.on oj (by have := hall e he hb; simpa using this) hj).1⟩
      rw [Nat.zero_add] at hstep
      have go : ∀ (v : Value) (w' : World), C w' → φ i (slots (a.put o.dst v)) w' → (∀ j u, φ j u w → φ j u w') → wpAny P .any ops Q fuel (listed.setIfInBounds i true) (a.put o.dst v) w' := by
        intro v w' hC' hv hm
        refine ih _ _ _ (by simpa using hsz) ?_ hC' (by rw [put_size]; exact hs) (by rw [put_defers]; exact hd) ?_ ?_
        · have hil : i < listed.size := by omega
          have e0 : listed[i] = false := by simpa [hil] using h0
          rw [Array.toList_setIfInBounds, List.count_set (by simpa using hil)]
          have : listed.toList[i]'(by simpa using hil) = false := by simpa using e0
          simp only [this]
          simp
          have hpos : 0 < listed.toList.count false := List.count_pos_iff.2 (by rw [← e0]; simp)
          simp at hpos
          simp at hc
          omega
        · intro t ht
          have hne : o.dst ≠ some t := fun e => by
            simp only [isDst, List.any_eq_false] at ht
            exact ht o (List.mem_of_getElem? hl') (by simp [e])
          rw [put_other _ _ _ _ hne]
          exact hk t ht
        · intro j oj hj hoj
          by_cases e : i = j
          · subst e
            have : oj = o := Option.some.inj (hoj.symm.trans ho)
            subst this
            refine ⟨hv, fun e he hb => ?_⟩
            have h1 := hall e he hb
            by_cases q : i = e.on
            · rw [← q]; exact getD_set_same (by omega)
            · rw [getD_set_ne false q]; simpa using h1
          · rw [getD_set_ne false e] at hj
            obtain ⟨h1, h2⟩ := hp j oj hj hoj
            refine ⟨hm _ _ (hrd j _ _ w (fun t ht => ?_) h1), fun e' he hb => ?_⟩
            · have hne : o.dst ≠ some t := fun hd' => by
                rcases own_spec hown hoj ht with h3 | h3 | ⟨e', he, hb, ok, hok, hkd⟩
                · exact distinct_spec hdist i j o oj t hl' (by simpa using hoj) e hd' h3
                · simp only [isDst, List.any_eq_false] at h3
                  exact h3 o (List.mem_of_getElem? hl') (by simp [hd'])
                · have h4 := h2 e' he hb
                  have h5 : i ≠ e'.on := fun q => by rw [← q, getD_both h0] at h4; cases h4
                  exact distinct_spec hdist i e'.on o ok t hl' (by simpa using hok) h5 hd' hkd
              exact (put_other _ _ _ _ hne).symm
            · by_cases q : i = e'.on
              · rw [← q]; exact getD_set_same (by omega)
              · rw [getD_set_ne false q]; exact h2 e' he hb
      unfold wpOp
      rw [ho]
      simp only
      unfold StepT at hstep
      split
      · rename_i hw
        rw [if_pos hw] at hstep
        refine .inl (Oper.wp_mono ?_ hstep)
        rintro a' w' ⟨v, rfl, hC', hv, hR⟩
        exact go v w' hC' hv (fun j u h => hφ j u w w' hR h)
      · rename_i hw
        rw [if_neg hw] at hstep
        exact go undef w hC hstep (fun j u h => h)

/-- THE LAW. -/
theorem region_tie {id : Nat} {l : List Oper} {w : World} (C : World → Prop) (φ : Nat → (Nat → Value) → World → Prop) (R : World → World → Prop) (rd : Nat → List Nat) (rk : Nat → Nat) (hm : P.follows .mixedOrders = true)
    (hB : (distinctB l && rankB l.toArray rk && ownB l.toArray rd && insideB l.toArray) = true) (hC : C w.drew)
    (hrd : ∀ i s s' w, (∀ t ∈ rd i, s t = s' t) → φ i s w → φ i s' w) (hφ : ∀ i v w w', R w w' → φ i v w → φ i v w') (hst : StepsT P l.toArray Q C φ R a0 0 l)
    (hQ : ∀ (f : Oper → Value) w, C w → (∀ i o, l[i]? = some o → φ i (slots (putAll f l a0)) w) → Q .normal (putAll f l a0) w) : (Code.region id l.toArray true).wp P Q a0 w := by
  simp only [Bool.and_eq_true] at hB
  refine wp_region_any hm (wpAny_tie (C := C) (φ := φ) (R := R) (a0 := a0) rd rk hB.1.1.1 hB.1.1.2 (inside_spec hB.2) hB.1.2 hrd hφ hst (fun f w hC h => hQ f w hC (fun i o ho => h i o (by simpa using ho))) _ _ _ w.drew (by simp) (by simp) hC rfl rfl (fun _ _ => rfl) ?_)
  intro i o hi
  simp at hi
  rcases Nat.lt_or_ge i l.length with h | h
  · simp [h] at hi
  · simp [Nat.not_lt.2 h] at hi

/-! What each kind of operation must do. -/
theorem tt_val {k : Nat} {o : Oper} {a : Act} {w : World} (v : Value) (hw : Region.wanted o (yielded ops a.tmps) = true) (hr : (execOp a.eval o).run P w = .ok (.value v) w) (hC : C w) (hv : φ k (slots (a.put o.dst v)) w) (hR : R w w) : StepT P ops Q C φ R k o a w := by
  unfold StepT
  rw [if_pos hw]
  unfold Oper.wp
  rw [hr]
  exact ⟨v, rfl, hC, hv, hR⟩
theorem tt_skip {k : Nat} {o : Oper} {a : Act} {w : World} (hw : Region.wanted o (yielded ops a.tmps) = false) (hv : φ k (slots (a.put o.dst undef)) w) : StepT P ops Q C φ R k o a w := by
  unfold StepT
  rw [if_neg (by rw [hw]; exact Bool.false_ne_true)]
  exact hv
theorem tt_new {k : Nat} {o : Oper} {a : Act} {w w' : World} (v : Value) (hw : Region.wanted o (yielded ops a.tmps) = true) (hr : (execOp a.eval o).run P w = .ok (.value v) w') (hC : C w') (hv : φ k (slots (a.put o.dst v)) w') (hR : R w w') : StepT P ops Q C φ R k o a w := by
  unfold StepT
  rw [if_pos hw]
  unfold Oper.wp
  rw [hr]
  exact ⟨v, rfl, hC, hv, hR⟩
theorem tt_v {k : Nat} {o : Oper} {a : Act} {w w' : World} (s : Sem Value) (v : Value) (hw : Region.wanted o (yielded ops a.tmps) = true) (ho : execOp a.eval o = (do let x ← s; pure (.value x))) (hr : s.run P w = .ok v w') (hC : C w') (hv : φ k (slots (a.put o.dst v)) w') (hR : R w w') : StepT P ops Q C φ R k o a w :=
  tt_new v hw (by rw [ho]; simp only [Sem.run_bind, hr, Result.andThen_ok, Sem.run_pure]) hC hv hR
theorem slots_put (a : Act) (d : Nat) (v : Value) (h : d < a.tmps.size) : slots (a.put (some d) v) d = v := put_same a d v h
theorem slots_other (a : Act) (d t : Nat) (v : Value) (h : d ≠ t) : slots (a.put (some d) v) t = slots a t := put_other a (some d) v t (by simpa using h)
theorem tt_load {k : Nat} {o : Oper} {a : Act} {w : World} (T : TypeId) (x : Operand) (p v : Value) (ho : o.op = .load T x) (hw : Region.wanted o (yielded ops a.tmps) = true) (hp : a.eval x = p)
    (hr : (Instr.loadAt T p).run P w = .ok v w) (hC : C w) (hv : φ k (slots (a.put o.dst v)) w) (hR : R w w) : StepT P ops Q C φ R k o a w :=
  tt_val v hw (by
    unfold execOp
    rw [ho]
    simp only [hp, Sem.run_bind, hr, Result.andThen_ok, Sem.run_pure]) hC hv hR
theorem tt_call {k : Nat} {o : Oper} {a : Act} {w : World} (f : FuncId) (args : Array Value) (hw : Region.wanted o (yielded ops a.tmps) = true) (he : (execOp a.eval o).run P w = .ok (.enter f args) w)
    (hc : Calls P f args w fun e w' => ∃ v, e = .returned v ∧ C w' ∧ φ k (slots (a.put o.dst v)) w' ∧ R w w') : StepT P ops Q C φ R k o a w := by
  unfold StepT
  rw [if_pos hw]
  unfold Oper.wp
  rw [he]
  refine Calls.mono hc ?_
  rintro e w' ⟨v, rfl, h1, h2, h3⟩
  exact ⟨v, rfl, h1, h2, h3⟩
theorem tt_store {k : Nat} {o : Oper} {a : Act} {w w' : World} (hw : Region.wanted o (yielded ops a.tmps) = true) (hd : o.dst = none) (hr : (execOp a.eval o).run P w = .ok .skip w') (hC : C w') (hv : φ k (slots a) w') (hR : R w w') : StepT P ops Q C φ R k o a w := by
  unfold StepT
  rw [if_pos hw]
  unfold Oper.wp
  rw [hr]
  refine ⟨undef, by rw [hd], hC, ?_, hR⟩
  rw [hd]; exact hv
end

/-- What a region's operations leave as it was: the blocks below h, the others' sizes and types; and who holds what is to be laid (F says what, by its type) goes on to. -/
structure RT (h : Nat) (F : TypeId → Array Value) (w w' : World) : Prop where
  size : w.heap.size ≤ w'.heap.size
  below : ∀ (k : Nat), k < h → w'.heap[k]? = w.heap[k]?
  shape : ∀ (k : Nat) (cs : Array Value) (T : TypeId) (fz : Nat × Nat), w.heap[k]? = some (.cells cs T fz) → ∃ cs' : Array Value, w'.heap[k]? = some (.cells cs' T fz) ∧ cs'.size = cs.size
  keep : ∀ (k : Nat) (T : TypeId) (fz : Nat × Nat), w.heap[k]? = some (.cells (F T) T fz) → w'.heap[k]? = some (.cells (F T) T fz)
theorem RT.refl (h : Nat) (F : TypeId → Array Value) (w : World) : RT h F w w := ⟨Nat.le_refl _, fun _ _ => rfl, fun _ cs _ _ e => ⟨cs, e, rfl⟩, fun _ _ _ e => e⟩
theorem RT.of {h : Nat} {F : TypeId → Array Value} {w w' : World} (hh : h ≤ w.heap.size) (hb : Below w.heap.size w w') : RT h F w w' := by
  have lt : ∀ {k : Nat} {o : Obj}, w.heap[k]? = some o → k < w.heap.size := fun e => (Array.getElem?_eq_some_iff.1 e).1
  exact ⟨hb.size, fun k hk => hb.block k (by omega), fun k cs T fz e => ⟨cs, (hb.block k (lt e)).trans e, rfl⟩, fun _ _ _ e => (hb.block _ (lt e)).trans e⟩
theorem RT.row {h g : Nat} {F : TypeId → Array Value} {w : World} {cs : Array Value} {T : TypeId} {fz : Nat × Nat} (hg : h ≤ g) (e : w.heap[g]? = some (.cells cs T fz)) (hs : cs.size = (F T).size) : RT h F w (w.setRow g (F T)) := by
  refine ⟨Nat.le_of_eq (setRow_size w g (F T)).symm, fun k hk => setRow_other _ _ _ _ (by omega), fun k cs' T' fz' e' => ?_, fun k T' fz' e' => ?_⟩
  · by_cases q : k = g
    · subst q
      rw [e] at e'
      cases e'
      exact ⟨_, setRow_heap _ _ _ _ _ _ e, hs.symm⟩
    · exact ⟨cs', (setRow_other _ _ _ _ q).trans e', rfl⟩
  · by_cases q : k = g
    · subst q
      rw [e] at e'
      cases e'
      exact setRow_heap _ _ _ _ _ _ e
    · exact (setRow_other _ _ _ _ q).trans e'
end Go.Proofs.YtmhgnlngcjckbaaDoor
namespace Go.Proofs.YtmhgnlngcjckbaaDoor
open Go.RowKit

theorem val_split (f : Nat → Nat) (i : Nat) : ∀ k, val f (i + k) = val f i + 18446744073709551616 ^ i * val (fun j => f (i + j)) k
  | 0 => by simp [val]
  | k + 1 => by
    show val f (i + k) + 18446744073709551616 ^ (i + k) * f (i + k) = val f i + 18446744073709551616 ^ i * (val (fun j => f (i + j)) k + 18446744073709551616 ^ k * f (i + k))
    rw [val_split f i k, Nat.mul_add, ← Nat.mul_assoc, ← Nat.pow_add, Nat.add_assoc]
theorem val_mono (f : Nat → Nat) (i k : Nat) : val f i ≤ val f (i + k) := by rw [val_split]; omega
theorem val_zero {f : Nat → Nat} : ∀ k, (∀ j, j < k → f j = 0) → val f k = 0
  | 0, _ => rfl
  | k + 1, h => by rw [val, val_zero k (fun j hj => h j (by omega)), h k (by omega)]; rfl
theorem val_top {f : Nat → Nat} {k N : Nat} (hk : k ≤ N) (h : ∀ j, k ≤ j → j < N → f j = 0) : val f N = val f k := by
  obtain ⟨e, rfl⟩ : ∃ e, N = k + e := ⟨N - k, by omega⟩
  rw [val_split, val_zero e (fun j hj => h (k + j) (by omega) (by omega))]
  rfl
theorem val_ztop {f : Nat → Nat} {k N : Nat} (h : val f N < 18446744073709551616 ^ k) (j : Nat) (hk : k ≤ j) (hj : j < N) : f j = 0 := by
  obtain ⟨e, rfl⟩ : ∃ e, N = j + 1 + e := ⟨N - (j + 1), by omega⟩
  have h1 := val_mono f (j + 1) e
  have h2 : 18446744073709551616 ^ j * f j ≤ val f (j + 1) := by rw [val]; omega
  have h3 : 18446744073709551616 ^ k ≤ 18446744073709551616 ^ j := Nat.pow_le_pow_right (by omega) hk
  rcases Nat.eq_zero_or_pos (f j) with h4 | h4
  · exact h4
  · have h5 : 18446744073709551616 ^ j * 1 ≤ 18446744073709551616 ^ j * f j := Nat.mul_le_mul_left _ h4
    generalize 18446744073709551616 ^ j * f j = y at *
    generalize 18446744073709551616 ^ j = z at *
    generalize 18446744073709551616 ^ k = u at *
    omega
theorem val_set (f : Nat → Nat) (i x : Nat) : ∀ N, i < N → val (fun j => if j = i then x else f j) N + 18446744073709551616 ^ i * f i = val f N + 18446744073709551616 ^ i * x := by
  intro N hN
  obtain ⟨e, rfl⟩ : ∃ e, N = i + 1 + e := ⟨N - (i + 1), by omega⟩
  rw [val_split, val_split f, val, val, if_pos rfl, val_congr (f := fun j => if j = i then x else f j) (g := f) (n := i) (fun j hj => if_neg (by omega)),
    val_congr (f := fun j => if i + 1 + j = i then x else f (i + 1 + j)) (g := fun j => f (i + 1 + j)) (n := e) (fun j hj => if_neg (by omega))]
  omega
theorem np_spec (f : Nat → Nat) : ∀ n, np f n ≤ n ∧ (∀ j, np f n ≤ j → j < n → f j = 0) ∧ (0 < np f n → f (np f n - 1) ≠ 0)
  | 0 => ⟨Nat.le_refl _, fun j _ h => by omega, fun h => by simp [np] at h⟩
  | n + 1 => by
    obtain ⟨h1, h2, h3⟩ := np_spec f n
    unfold np
    by_cases e : f n = 0
    · rw [if_pos e]
      refine ⟨by omega, fun j hj hn => ?_, h3⟩
      by_cases q : j = n
      · rw [q]; exact e
      · exact h2 j hj (by omega)
    · rw [if_neg e]
      exact ⟨Nat.le_refl _, fun j hj hn => by omega, fun _ => e⟩
/-- What a round takes of the rest. -/
theorem div_take {cur : Nat → Nat} {D i n : Nat} (hD : D ≤ 18446744073709551616 ^ n) (hin : i + n + 1 ≤ 9) (hlt : val cur 9 < D * 18446744073709551616 ^ (i + 1)) :
    (∀ j, i + (n + 1) ≤ j → j < 9 → cur j = 0) ∧ val cur 9 = val cur i + 18446744073709551616 ^ i * val (fun j => cur (i + j)) (n + 1) ∧ val (fun j => cur (i + j)) (n + 1) < 18446744073709551616 * D := by
  have h1 : val cur 9 < 18446744073709551616 ^ (i + (n + 1)) := by
    refine Nat.lt_of_lt_of_le hlt ?_
    have := Nat.mul_le_mul_right (18446744073709551616 ^ (i + 1)) hD
    rwa [← Nat.pow_add, show n + (i + 1) = i + (n + 1) by omega] at this
  have h2 : ∀ j, i + (n + 1) ≤ j → j < 9 → cur j = 0 := fun j => val_ztop h1 j
  have h3 : val cur 9 = val cur i + 18446744073709551616 ^ i * val (fun j => cur (i + j)) (n + 1) := by
    rw [val_top (k := i + (n + 1)) (by omega) h2, val_split]
  refine ⟨h2, h3, ?_⟩
  rw [h3, Nat.pow_succ] at hlt
  have hp : 0 < 18446744073709551616 ^ i := Nat.pow_pos (by omega)
  generalize val (fun j => cur (i + j)) (n + 1) = r at *
  generalize 18446744073709551616 ^ i = p at *
  generalize 18446744073709551616 = P at *
  refine Nat.lt_of_mul_lt_mul_left (a := p) (Nat.lt_of_le_of_lt ?_ (Nat.lt_of_lt_of_eq hlt (by rw [Nat.mul_comm p P, ← Nat.mul_assoc, Nat.mul_comm D P, Nat.mul_comm])))
  omega
/-- The rest behind a round, the quotient behind a round. -/
def curN (cur ns : Nat → Nat) (i n : Nat) : Nat → Nat := fun j => if i ≤ j ∧ j < i + (n + 1) then ns (j - i) else cur j
def quoN (q : Nat → Nat) (i part : Nat) : Nat → Nat := fun j => if j = i then part else q j
theorem curN_val {cur ns : Nat → Nat} {i n : Nat} (hin : i + n + 1 ≤ 9) (h0 : ∀ j, i + (n + 1) ≤ j → j < 9 → cur j = 0) : val (curN cur ns i n) 9 = val cur i + 18446744073709551616 ^ i * val ns (n + 1) := by
  rw [val_top (f := curN cur ns i n) (k := i + (n + 1)) (by omega) (fun j h1 h2 => by unfold curN; rw [if_neg (by omega)]; exact h0 j h1 h2), val_split,
    val_congr (f := curN cur ns i n) (g := cur) (n := i) (fun j hj => by unfold curN; rw [if_neg (by omega)]),
    val_congr (f := fun j => curN cur ns i n (i + j)) (g := ns) (n := n + 1) (fun j hj => by unfold curN; rw [if_pos (by omega), show i + j - i = j by omega])]
theorem div_arith {X q8 q8' p part r m D c R0 : Nat} (h : q8 * D + (c + p * r) = R0) (hr : r = D * part + m) (hq : q8' = q8 + p * part) (hX : X = c + p * m) : q8' * D + X = R0 := by
  subst hq hX hr
  rw [← h]; grind
theorem div_round {cur q ns : Nat → Nat} {D R0 i n part : Nat} (hc : ∀ j, j < 9 → cur j < 18446744073709551616) (hD0 : 0 < D) (hD : D ≤ 18446744073709551616 ^ n) (hin : i + n + 1 ≤ 9) (hi : i < 8) (hlt : val cur 9 < D * 18446744073709551616 ^ (i + 1))
    (inv : val q 8 * D + val cur 9 = R0) (hq : q i = 0) (hp : part = val (fun j => cur (i + j)) (n + 1) / D) (hns : val ns (n + 1) = val (fun j => cur (i + j)) (n + 1) % D) :
    val (quoN q i part) 8 * D + val (curN cur ns i n) 9 = R0 ∧ val (curN cur ns i n) 9 < D * 18446744073709551616 ^ i ∧ part < 18446744073709551616 := by
  obtain ⟨h0, h1, h2⟩ := div_take hD hin hlt
  have h3 := curN_val (ns := ns) hin h0
  have h4 := val_set q i part 8 hi
  rw [hq, Nat.mul_zero, Nat.add_zero] at h4
  have h5 := val_lt (f := cur) (n := i) (fun j hj => hc j (by omega))
  rw [h1] at inv
  refine ⟨div_arith inv (r := val (fun j => cur (i + j)) (n + 1)) (by rw [hp]; exact (Nat.div_add_mod _ _).symm) h4 (by rw [h3, hns]), ?_, ?_⟩
  · rw [h3, hns]
    have h6 := Nat.mod_lt (val (fun j => cur (i + j)) (n + 1)) hD0
    generalize val (fun j => cur (i + j)) (n + 1) % D = r at *
    have h7 : 18446744073709551616 ^ i * (r + 1) ≤ 18446744073709551616 ^ i * D := Nat.mul_le_mul_left _ h6
    rw [Nat.mul_add, Nat.mul_one] at h7
    rw [Nat.mul_comm D]
    generalize 18446744073709551616 ^ i = p at *
    generalize p * D = y at *
    generalize p * r = z at *
    omega
  · rw [hp, Nat.div_lt_iff_lt_mul hD0]; exact h2
theorem div_end {A B D q V s : Nat} (hD : D = B * 2 ^ s) (inv : q * D + V = A * 2 ^ s) (h : V < D) : q = A / B ∧ V / 2 ^ s = A % B := by
  have hp := Nat.two_pow_pos s
  have e1 : q = A * 2 ^ s / D := by
    rw [← inv, Nat.add_comm, Nat.mul_comm, Nat.add_mul_div_left _ _ (by omega), Nat.div_eq_of_lt h, Nat.zero_add]
  have e2 : V = A * 2 ^ s % D := by
    rw [← inv, Nat.add_comm, Nat.mul_comm, Nat.add_mul_mod_self_left, Nat.mod_eq_of_lt h]
  rw [hD, Nat.mul_div_mul_right _ _ hp] at e1
  rw [hD, Nat.mul_mod_mul_right] at e2
  exact ⟨e1, by rw [e2, Nat.mul_div_cancel _ hp]⟩
/-- As the rounds begin. -/
theorem div_start {a b : Nat → Nat} {m n s c : Nat} (ha : ∀ j, j < m → a j < 18446744073709551616) (hb : b (n - 1) ≠ 0) (hn : 0 < n) (hc : m + 1 ≤ c + n) : val a m * 2 ^ s < val b n * 2 ^ s * 18446744073709551616 ^ c := by
  have h1 := val_lt ha
  have h2 : 18446744073709551616 ^ (n - 1) * b (n - 1) ≤ val b n := by
    have := val_mono b (n - 1 + 1) 0
    rw [show n = n - 1 + 1 by omega, val, Nat.add_sub_cancel]; omega
  have h3 : 18446744073709551616 ^ (n - 1) * 1 ≤ 18446744073709551616 ^ (n - 1) * b (n - 1) := Nat.mul_le_mul_left _ (Nat.pos_of_ne_zero hb)
  have h4 : 18446744073709551616 ^ m ≤ 18446744073709551616 ^ (n - 1) * 18446744073709551616 ^ c := by
    rw [← Nat.pow_add]; exact Nat.pow_le_pow_right (by omega) (by omega)
  have h5 : 18446744073709551616 ^ (n - 1) * 18446744073709551616 ^ c ≤ val b n * 18446744073709551616 ^ c := Nat.mul_le_mul_right _ (by omega)
  have h6 : val a m < val b n * 18446744073709551616 ^ c := Nat.lt_of_lt_of_le h1 (Nat.le_trans h4 h5)
  have hp := Nat.two_pow_pos s
  rw [Nat.mul_right_comm]
  exact Nat.mul_lt_mul_of_lt_of_le h6 (Nat.le_refl _) hp
end Go.Proofs.YtmhgnlngcjckbaaDoor
namespace Go.Proofs.YtmhgnlngcjckbaaDoor
open Go.RowKit

/-- The divisor's block behind the fifth statement. -/
def CutE (w W : World) (h : Nat) (ds : Nat → Nat) (v : Value) (wx : World) : Prop :=
  ∃ D : Nat, v = .pointer (some ⟨D, 0, none⟩) ∧ h ≤ D ∧ D < wx.heap.size ∧ Below h W wx ∧ Below w.heap.size w wx ∧ Holds4 D (.int .u64 (ds 0 : Nat)) (.int .u64 (ds 1 : Nat)) (.int .u64 (ds 2 : Nat)) (.int .u64 (ds 3 : Nat)) wx
theorem cutE_mk {w W wx : World} {h D : Nat} {ds : Nat → Nat} (h1 : h ≤ D) (h2 : D < wx.heap.size) (h3 : Below h W wx) (h4 : Below w.heap.size w W) (h6 : w.heap.size ≤ h) (c0 : wx.cell? ⟨D, 0, none⟩ = some (.int .u64 (ds 0 : Nat))) (c1 : wx.cell? ⟨D, 1, none⟩ = some (.int .u64 (ds 1 : Nat))) (c2 : wx.cell? ⟨D, 2, none⟩ = some (.int .u64 (ds 2 : Nat))) (c3 : wx.cell? ⟨D, 3, none⟩ = some (.int .u64 (ds 3 : Nat))) : CutE w W h ds (.pointer (some ⟨D, 0, none⟩)) wx :=
  ⟨D, rfl, h1, h2, h3, h4.trans (h3.mono h6), c0, c1, c2, c3⟩

theorem upto4 {P : Nat → Prop} (h0 : P 0) (h1 : P 1) (h2 : P 2) (h3 : P 3) : ∀ j, j < 4 → P j := fun j hj => by
  rcases j with _ | _ | _ | _ | j
  · exact h0
  · exact h1
  · exact h2
  · exact h3
  · omega
theorem upto9 {P : Nat → Prop} (h0 : P 0) (h1 : P 1) (h2 : P 2) (h3 : P 3) (h4 : P 4) (h5 : P 5) (h6 : P 6) (h7 : P 7) (h8 : P 8) : ∀ j, j < 9 → P j := fun j hj => by
  rcases j with _ | _ | _ | _ | _ | _ | _ | _ | _ | j
  · exact h0
  · exact h1
  · exact h2
  · exact h3
  · exact h4
  · exact h5
  · exact h6
  · exact h7
  · exact h8
  · omega
theorem upto8 {P : Nat → Prop} (h0 : P 0) (h1 : P 1) (h2 : P 2) (h3 : P 3) (h4 : P 4) (h5 : P 5) (h6 : P 6) (h7 : P 7) : ∀ j, j < 8 → P j := fun j hj => by
  rcases j with _ | _ | _ | _ | _ | _ | _ | _ | j
  · exact h0
  · exact h1
  · exact h2
  · exact h3
  · exact h4
  · exact h5
  · exact h6
  · exact h7
  · omega

/-- The worlds between the rounds: the rest's block S, the quotient's block Q, the divisor's block D, the results'. -/
structure DivW (w : World) (S Q D z : Nat) (ds cur q : Nat → Nat) (wr : World) : Prop where
  below : Below w.heap.size w wr
  size : wr.heap.size = z
  r4 : Is wr (w.heap.size + 1 + 1) (.cells #[.int .u64 0, .int .u64 0, .int .u64 0, .int .u64 0, .int .u64 0, .int .u64 0, .int .u64 0, .int .u64 0] 43)
  r5 : Is wr (w.heap.size + 1 + 1 + 1) (.cells #[.int .u64 0, .int .u64 0, .int .u64 0, .int .u64 0] 24)
  rest : ∀ j, j < 9 → wr.cell? ⟨S, j, none⟩ = some (.int .u64 (cur j : Nat))
  restf : ∀ j, j < 9 → wr.frozen? ⟨S, j, none⟩ = false
  quo : ∀ j, j < 8 → wr.cell? ⟨Q, j, none⟩ = some (.int .u64 (q j : Nat))
  quof : ∀ j, j < 8 → wr.frozen? ⟨Q, j, none⟩ = false
  by_ : ∀ j, j < 4 → wr.cell? ⟨D, j, none⟩ = some (.int .u64 (ds j : Nat))
theorem DivW.drew {w wr : World} {S Q D z : Nat} {ds cur q : Nat → Nat} (h : DivW w S Q D z ds cur q wr) : DivW w S Q D z ds cur q wr.drew :=
  ⟨h.below.drew, h.size, h.r4, h.r5, h.rest, h.restf, h.quo, h.quof, h.by_⟩
/-- A round. -/
theorem DivW.step {w wr w3 : World} {S Q D z i n : Nat} {ds cur q ns : Nat → Nat} {part : Nat} (h : DivW w S Q D z ds cur q wr) (hH : Holds S i (n + 1) ns wr w3) (hin : i + n + 1 ≤ 9) (hi : i < 8)
    (hSQ : S ≠ Q) (hSD : D ≠ S) (hQD : D ≠ Q) (hS : w.heap.size + 1 + 1 + 1 < S) (hQ : w.heap.size + 1 + 1 + 1 < Q) :
    DivW w S Q D z ds (curN cur ns i n) (quoN q i part) (w3.setCell ⟨Q, i, none⟩ (.int .u64 (part : Nat))) := by
  obtain ⟨hb, hc⟩ := hH
  have hQc : w3.cell? ⟨Q, i, none⟩ = some (.int .u64 (q i : Nat)) := (hb.cell (p := ⟨Q, i, none⟩) (Ne.symm hSQ)).trans (h.quo i hi)
  refine ⟨(But.below h.below hb (by omega)).setCell (by show w.heap.size ≤ Q; omega) _, ?_, (h.r4.but hb (by omega)).set (p := ⟨Q, i, none⟩) (by show _ ≠ Q; omega) _, (h.r5.but hb (by omega)).set (p := ⟨Q, i, none⟩) (by show _ ≠ Q; omega) _, ?_, ?_, ?_, ?_, ?_⟩
  · rw [← h.size, ← hb.size]; simp
  · intro j hj
    rw [World.cell?_setCell_other _ _ _ _ (fun e => hSQ (congrArg Addr.block e).symm), hc j]
    unfold curN
    by_cases e : i ≤ j ∧ j < i + (n + 1)
    · rw [if_pos e, if_pos e]
    · rw [if_neg e, if_neg e]; exact h.rest j hj
  · intro j hj
    rw [World.frozen?_setCell, hb.frozen]; exact h.restf j hj
  · intro j hj
    unfold quoN
    by_cases e : j = i
    · subst e; rw [if_pos rfl, World.cell?_setCell_same _ _ _ hQc]
    · rw [if_neg e, World.cell?_setCell_other _ _ _ _ (fun h => e (congrArg Addr.off h).symm), hb.cell (p := ⟨Q, j, none⟩) (Ne.symm hSQ)]; exact h.quo j hj
  · intro j hj
    rw [World.frozen?_setCell, World.frozen?_of_block (w := wr) (a := ⟨Q, j, none⟩) (hb.block Q (Ne.symm hSQ))]; exact h.quof j hj
  · intro j hj
    rw [World.cell?_setCell_other _ _ _ _ (fun e => hQD (congrArg Addr.block e).symm), hb.cell (p := ⟨D, j, none⟩) hSD]; exact h.by_ j hj

/-- The worlds of the last statement. -/
structure ClQ (w : World) (S Q : Nat) (cur q : Nat → Nat) (wx : World) : Prop where
  below : Below w.heap.size w wx
  r4 : Is wx (w.heap.size + 1 + 1) (.cells #[.int .u64 0, .int .u64 0, .int .u64 0, .int .u64 0, .int .u64 0, .int .u64 0, .int .u64 0, .int .u64 0] 43)
  r5 : Is wx (w.heap.size + 1 + 1 + 1) (.cells #[.int .u64 0, .int .u64 0, .int .u64 0, .int .u64 0] 24)
  quo : ∀ j, j < 8 → wx.cell? ⟨Q, j, none⟩ = some (.int .u64 (q j : Nat))
  rest : ∀ j, j < 9 → wx.cell? ⟨S, j, none⟩ = some (.int .u64 (cur j : Nat))
  hQ : Q < wx.heap.size
  hS : S < wx.heap.size
theorem ClQ.grown {w wx w' : World} {S Q : Nat} {cur q : Nat → Nat} (h : ClQ w S Q cur q wx) (hb : Below wx.heap.size wx w') : ClQ w S Q cur q w' :=
  ⟨h.below.trans (hb.mono h.below.size), h.r4.below hb h.r4.lt, h.r5.below hb h.r5.lt, fun j hj => (hb.cell (p := ⟨Q, j, none⟩) h.hQ).trans (h.quo j hj), fun j hj => (hb.cell (p := ⟨S, j, none⟩) h.hS).trans (h.rest j hj), Nat.lt_of_lt_of_le h.hQ hb.size, Nat.lt_of_lt_of_le h.hS hb.size⟩
theorem ClQ.quos {w wx : World} {S Q : Nat} {cur q : Nat → Nat} (h : ClQ w S Q cur q wx) : wx.cell? ⟨Q, 0, none⟩ = some (.int .u64 (q 0 : Nat)) ∧ wx.cell? ⟨Q, 1, none⟩ = some (.int .u64 (q 1 : Nat)) ∧ wx.cell? ⟨Q, 2, none⟩ = some (.int .u64 (q 2 : Nat)) ∧ wx.cell? ⟨Q, 3, none⟩ = some (.int .u64 (q 3 : Nat)) ∧ wx.cell? ⟨Q, 4, none⟩ = some (.int .u64 (q 4 : Nat)) ∧ wx.cell? ⟨Q, 5, none⟩ = some (.int .u64 (q 5 : Nat)) ∧ wx.cell? ⟨Q, 6, none⟩ = some (.int .u64 (q 6 : Nat)) ∧ wx.cell? ⟨Q, 7, none⟩ = some (.int .u64 (q 7 : Nat)) :=
  ⟨h.quo 0 (by omega), h.quo 1 (by omega), h.quo 2 (by omega), h.quo 3 (by omega), h.quo 4 (by omega), h.quo 5 (by omega), h.quo 6 (by omega), h.quo 7 (by omega)⟩
theorem ClQ.rests {w wx : World} {S Q : Nat} {cur q : Nat → Nat} (h : ClQ w S Q cur q wx) : wx.cell? ⟨S, 0, none⟩ = some (.int .u64 (cur 0 : Nat)) ∧ wx.cell? ⟨S, 1, none⟩ = some (.int .u64 (cur 1 : Nat)) ∧ wx.cell? ⟨S, 2, none⟩ = some (.int .u64 (cur 2 : Nat)) ∧ wx.cell? ⟨S, 3, none⟩ = some (.int .u64 (cur 3 : Nat)) :=
  ⟨h.rest 0 (by omega), h.rest 1 (by omega), h.rest 2 (by omega), h.rest 3 (by omega)⟩
end Go.Proofs.YtmhgnlngcjckbaaDoor
namespace Go.Proofs.YtmhgnlngcjckbaaDoor
open Go.RowKit

theorem slice9 (S i n : Nat) (h : i + n + 1 ≤ 9) (w : World) : (Instr.sliceAt 60 (.pointer (some ⟨S, 0, none⟩)) (some (.int .i64 (i : Nat))) (some (.int .i64 ((i : Int) + (n : Int) + 1))) none).run Tryd.prog w = .ok (.slice (some ⟨S, i, none⟩) (n + 1) (9 - i)) w := by
  have hlen : Tryd.prog.arrayLen 60 = 9 := by kernel_rfl
  have hsz : (sizeOf (Tryd.prog.elem 60)).run Tryd.prog w = .ok 1 w := by kernel_rfl
  rw [run_sliceAt_array_lh w 60 ⟨S, 0, none⟩ (by kernel_rfl) .i64 .i64 _ _ (by omega) (by omega) (by rw [hlen]; omega), hsz, hlen]
  simp only [Result.andThen, slicedAt, Addr.add]
  rw [if_neg (by omega), show ((i : Int) + (n : Int) + 1).toNat = i + n + 1 by omega, Int.toNat_natCast, show i + n + 1 - i = n + 1 by omega]
  simp
  omega
theorem slice4 (D n : Nat) (h : n ≤ 4) (w : World) : (Instr.sliceAt 24 (.pointer (some ⟨D, 0, none⟩)) none (some (.int .i64 (n : Nat))) none).run Tryd.prog w = .ok (.slice (some ⟨D, 0, none⟩) n 4) w := by
  have hlen : Tryd.prog.arrayLen 24 = 4 := by kernel_rfl
  have hsz : (sizeOf (Tryd.prog.elem 24)).run Tryd.prog w = .ok 1 w := by kernel_rfl
  rw [run_sliceAt_array_h w 24 ⟨D, 0, none⟩ (by kernel_rfl) .i64 _ (by omega) (by rw [hlen]; omega), hsz, hlen]
  simp only [Result.andThen, slicedAt, Addr.add]
  rw [if_neg (by omega), Int.toNat_natCast]
  simp
end Go.Proofs.YtmhgnlngcjckbaaDoor
namespace Go.Proofs.YtmhgnlngcjckbaaDoor
open Go.RowKit

def DivPostA (ds rs : Nat → Nat) (sr : (Nat → Nat) → Nat → Nat) (n : Nat) (w : World) (e : Ending) (w' : World) : Prop :=
  ∃ cur q : Nat → Nat, e = .returned (.tuple #[.agg #[.int .u64 (q 0 : Nat), .int .u64 (q 1 : Nat), .int .u64 (q 2 : Nat), .int .u64 (q 3 : Nat), .int .u64 (q 4 : Nat), .int .u64 (q 5 : Nat), .int .u64 (q 6 : Nat), .int .u64 (q 7 : Nat)], .agg #[.int .u64 (sr cur 0 : Nat), .int .u64 (sr cur 1 : Nat), .int .u64 (sr cur 2 : Nat), .int .u64 (sr cur 3 : Nat)]]) ∧ (∀ j, j < 9 → cur j < 18446744073709551616) ∧ (∀ j, j < 8 → q j < 18446744073709551616) ∧ val q 8 * val ds n + val cur 9 = val rs 9 ∧ val cur 9 < val ds n ∧ Below w.heap.size w w'

set_option maxRecDepth 100000 in
set_option maxHeartbeats 4000000 in
theorem divide_walk (xs bs ds rs : Nat → Nat) (sr : (Nat → Nat) → Nat → Nat) (n k m s : Nat) (hk : k ≤ 3) (hn : n = k + 1) (hm : m ≤ 8) (hs : s < 64) (w : World)
    (hP : ∀ (B : Nat) (w : World), w.cell? ⟨B, 0, none⟩ = some (.int .u64 (bs 0 : Nat)) → w.cell? ⟨B, 1, none⟩ = some (.int .u64 (bs 1 : Nat)) → w.cell? ⟨B, 2, none⟩ = some (.int .u64 (bs 2 : Nat)) → w.cell? ⟨B, 3, none⟩ = some (.int .u64 (bs 3 : Nat)) →
      Calls Tryd.prog 31 #[.slice (some ⟨B, 0, none⟩) 4 4] w fun e w' => e = .returned (.int .i64 (n : Nat)) ∧ w = w')
    (hL : ∀ w, Calls Tryd.prog 32 #[.int .u64 (bs k : Nat)] w fun e w' => e = .returned (.int .i64 (s : Nat)) ∧ w = w')
    (hShl : ∀ w, Calls Tryd.prog 33 #[.agg #[.int .u64 (s : Nat), .int .u64 0, .int .u64 0, .int .u64 0], .agg #[.int .u64 (bs 0 : Nat), .int .u64 (bs 1 : Nat), .int .u64 (bs 2 : Nat), .int .u64 (bs 3 : Nat)]] w fun e w' => e = .returned (.agg #[.int .u64 (ds 0 : Nat), .int .u64 (ds 1 : Nat), .int .u64 (ds 2 : Nat), .int .u64 (ds 3 : Nat)]) ∧ Below w.heap.size w w')
    (hR : ∀ w, Calls Tryd.prog 34 #[.agg #[.int .u64 (xs 0 : Nat), .int .u64 (xs 1 : Nat), .int .u64 (xs 2 : Nat), .int .u64 (xs 3 : Nat), .int .u64 (xs 4 : Nat), .int .u64 (xs 5 : Nat), .int .u64 (xs 6 : Nat), .int .u64 (xs 7 : Nat)], .int .i64 (s : Nat)] w fun e w' => e = .returned (.agg #[.int .u64 (rs 0 : Nat), .int .u64 (rs 1 : Nat), .int .u64 (rs 2 : Nat), .int .u64 (rs 3 : Nat), .int .u64 (rs 4 : Nat), .int .u64 (rs 5 : Nat), .int .u64 (rs 6 : Nat), .int .u64 (rs 7 : Nat), .int .u64 (rs 8 : Nat)]) ∧ Below w.heap.size w w')
    (hPa : ∀ (B : Nat) (w : World), w.cell? ⟨B, 0, none⟩ = some (.int .u64 (xs 0 : Nat)) → w.cell? ⟨B, 1, none⟩ = some (.int .u64 (xs 1 : Nat)) → w.cell? ⟨B, 2, none⟩ = some (.int .u64 (xs 2 : Nat)) → w.cell? ⟨B, 3, none⟩ = some (.int .u64 (xs 3 : Nat)) → w.cell? ⟨B, 4, none⟩ = some (.int .u64 (xs 4 : Nat)) → w.cell? ⟨B, 5, none⟩ = some (.int .u64 (xs 5 : Nat)) → w.cell? ⟨B, 6, none⟩ = some (.int .u64 (xs 6 : Nat)) → w.cell? ⟨B, 7, none⟩ = some (.int .u64 (xs 7 : Nat)) →
      Calls Tryd.prog 31 #[.slice (some ⟨B, 0, none⟩) 8 8] w fun e w' => e = .returned (.int .i64 (m : Nat)) ∧ w = w')
    (hSr : ∀ (cur : Nat → Nat), (∀ j, j < 9 → cur j < 18446744073709551616) → ∀ w, Calls Tryd.prog 36 #[.agg #[.int .u64 (s : Nat), .int .u64 0, .int .u64 0, .int .u64 0], .agg #[.int .u64 (cur 0 : Nat), .int .u64 (cur 1 : Nat), .int .u64 (cur 2 : Nat), .int .u64 (cur 3 : Nat)]] w fun e w' => e = .returned (.agg #[.int .u64 (sr cur 0 : Nat), .int .u64 (sr cur 1 : Nat), .int .u64 (sr cur 2 : Nat), .int .u64 (sr cur 3 : Nat)]) ∧ Below w.heap.size w w')
    (hrl : ∀ j, j < 9 → rs j < 18446744073709551616) (hdl : ∀ j, j < k + 1 → ds j < 18446744073709551616) (hdk : 9223372036854775808 ≤ ds k)
    (hst : val rs 9 < val ds n * 18446744073709551616 ^ (m + 1 - n)) :
    Calls Tryd.prog 18 #[.agg #[.int .u64 (xs 0 : Nat), .int .u64 (xs 1 : Nat), .int .u64 (xs 2 : Nat), .int .u64 (xs 3 : Nat), .int .u64 (xs 4 : Nat), .int .u64 (xs 5 : Nat), .int .u64 (xs 6 : Nat), .int .u64 (xs 7 : Nat)], .agg #[.int .u64 (bs 0 : Nat), .int .u64 (bs 1 : Nat), .int .u64 (bs 2 : Nat), .int .u64 (bs 3 : Nat)]] w (DivPostA ds rs sr n w) := by
  have HPa := Lib.hid hPa; clear hPa
  have HSR := Lib.hid hSr; clear hSr
  have HRL := Lib.hid hrl; clear hrl
  have HDL := Lib.hid hdl; clear hdl
  have HDK := Lib.hid hdk; clear hdk
  have HST := Lib.hid hst; clear hst
  have i4 : Is ((((w.alloc (.cells #[.int .u64 (xs 0 : Nat), .int .u64 (xs 1 : Nat), .int .u64 (xs 2 : Nat), .int .u64 (xs 3 : Nat), .int .u64 (xs 4 : Nat), .int .u64 (xs 5 : Nat), .int .u64 (xs 6 : Nat), .int .u64 (xs 7 : Nat)] 43)).alloc (.cells #[.int .u64 (bs 0 : Nat), .int .u64 (bs 1 : Nat), .int .u64 (bs 2 : Nat), .int .u64 (bs 3 : Nat)] 24)).alloc (.cells #[.int .u64 0, .int .u64 0, .int .u64 0, .int .u64 0, .int .u64 0, .int .u64 0, .int .u64 0, .int .u64 0] 43)).alloc (.cells #[.int .u64 0, .int .u64 0, .int .u64 0, .int .u64 0] 24)) (w.heap.size + 1 + 1) (.cells #[.int .u64 0, .int .u64 0, .int .u64 0, .int .u64 0, .int .u64 0, .int .u64 0, .int .u64 0, .int .u64 0] 43) := (Is.new _ (by simp)).alloc _
  have i5 : Is ((((w.alloc (.cells #[.int .u64 (xs 0 : Nat), .int .u64 (xs 1 : Nat), .int .u64 (xs 2 : Nat), .int .u64 (xs 3 : Nat), .int .u64 (xs 4 : Nat), .int .u64 (xs 5 : Nat), .int .u64 (xs 6 : Nat), .int .u64 (xs 7 : Nat)] 43)).alloc (.cells #[.int .u64 (bs 0 : Nat), .int .u64 (bs 1 : Nat), .int .u64 (bs 2 : Nat), .int .u64 (bs 3 : Nat)] 24)).alloc (.cells #[.int .u64 0, .int .u64 0, .int .u64 0, .int .u64 0, .int .u64 0, .int .u64 0, .int .u64 0, .int .u64 0] 43)).alloc (.cells #[.int .u64 0, .int .u64 0, .int .u64 0, .int .u64 0] 24)) (w.heap.size + 1 + 1 + 1) (.cells #[.int .u64 0, .int .u64 0, .int .u64 0, .int .u64 0] 24) := Is.new _ (by simp)
  have I4 := Lib.hid i4; clear i4
  have I5 := Lib.hid i5; clear i5
  have HP := Lib.hid hP; clear hP
  have HSH := Lib.hid hShl; clear hShl
  have HR := Lib.hid hR; clear hR
  have hof : ∀ w, Calls Tryd.prog 11 #[.int .u64 (s : Nat)] w fun e w' => e = .returned (.agg #[.int .u64 (s : Nat), .int .u64 0, .int .u64 0, .int .u64 0]) ∧ w.alloc (.cells #[.int .u64 (s : Nat), .int .u64 0, .int .u64 0, .int .u64 0] 24) = w' := fun w => of_exact s w
  have HOF := Lib.hid hof; clear hof
  have h0 : Below w.heap.size w ((((w.alloc (.cells #[.int .u64 (xs 0 : Nat), .int .u64 (xs 1 : Nat), .int .u64 (xs 2 : Nat), .int .u64 (xs 3 : Nat), .int .u64 (xs 4 : Nat), .int .u64 (xs 5 : Nat), .int .u64 (xs 6 : Nat), .int .u64 (xs 7 : Nat)] 43)).alloc (.cells #[.int .u64 (bs 0 : Nat), .int .u64 (bs 1 : Nat), .int .u64 (bs 2 : Nat), .int .u64 (bs 3 : Nat)] 24)).alloc (.cells #[.int .u64 0, .int .u64 0, .int .u64 0, .int .u64 0, .int .u64 0, .int .u64 0, .int .u64 0, .int .u64 0] 43)).alloc (.cells #[.int .u64 0, .int .u64 0, .int .u64 0, .int .u64 0] 24)) := by go_grown
  have H0 := Lib.hid h0; clear h0
  have hnk : (n : Int) - 1 = (k : Int) := by omega
  have hk0 : (0 : Int) ≤ k := by omega
  have hk1 : (k : Int) ≤ 3 := by omega
  have hk4 : (k : Int) < 4 := by omega
  have hn0 : (1 : Int) ≤ n := by omega
  have hn4 : (n : Int) ≤ 4 := by omega
  have hnz : ((n : Int) == 0) = false := by rw [beq_eq_false_iff_ne]; omega
  have hs0 : (0 : Int) ≤ s := by omega
  have hs1 : (s : Int) ≤ 63 := by omega
  have us : IntKind.u64.wrap (s : Int) = (s : Int) := by rw [IntKind.wrap_u64]; omega
  have hm0 : (0 : Int) ≤ m := by omega
  have hm8 : (m : Int) ≤ 8 := by omega
  have ck : ((((w.alloc (.cells #[.int .u64 (xs 0 : Nat), .int .u64 (xs 1 : Nat), .int .u64 (xs 2 : Nat), .int .u64 (xs 3 : Nat), .int .u64 (xs 4 : Nat), .int .u64 (xs 5 : Nat), .int .u64 (xs 6 : Nat), .int .u64 (xs 7 : Nat)] 43)).alloc (.cells #[.int .u64 (bs 0 : Nat), .int .u64 (bs 1 : Nat), .int .u64 (bs 2 : Nat), .int .u64 (bs 3 : Nat)] 24)).alloc (.cells #[.int .u64 0, .int .u64 0, .int .u64 0, .int .u64 0, .int .u64 0, .int .u64 0, .int .u64 0, .int .u64 0] 43)).alloc (.cells #[.int .u64 0, .int .u64 0, .int .u64 0, .int .u64 0] 24)).cell? ⟨w.heap.size + 1, k, none⟩ = some (.int .u64 (bs k : Nat)) :=
    upto4 (P := fun k => ((((w.alloc (.cells #[.int .u64 (xs 0 : Nat), .int .u64 (xs 1 : Nat), .int .u64 (xs 2 : Nat), .int .u64 (xs 3 : Nat), .int .u64 (xs 4 : Nat), .int .u64 (xs 5 : Nat), .int .u64 (xs 6 : Nat), .int .u64 (xs 7 : Nat)] 43)).alloc (.cells #[.int .u64 (bs 0 : Nat), .int .u64 (bs 1 : Nat), .int .u64 (bs 2 : Nat), .int .u64 (bs 3 : Nat)] 24)).alloc (.cells #[.int .u64 0, .int .u64 0, .int .u64 0, .int .u64 0, .int .u64 0, .int .u64 0, .int .u64 0, .int .u64 0] 43)).alloc (.cells #[.int .u64 0, .int .u64 0, .int .u64 0, .int .u64 0] 24)).cell? ⟨w.heap.size + 1, k, none⟩ = some (.int .u64 (bs k : Nat))) (by go_cell) (by go_cell) (by go_cell) (by go_cell) k (by omega)
  have HN := Lib.hid hn; clear hn
  go_enter Tryd.func18, Tryd.ntmps18
  go_wp2_with fail
  refine (HP.out (w.heap.size + 1) ((((w.alloc (.cells #[.int .u64 (xs 0 : Nat), .int .u64 (xs 1 : Nat), .int .u64 (xs 2 : Nat), .int .u64 (xs 3 : Nat), .int .u64 (xs 4 : Nat), .int .u64 (xs 5 : Nat), .int .u64 (xs 6 : Nat), .int .u64 (xs 7 : Nat)] 43)).alloc (.cells #[.int .u64 (bs 0 : Nat), .int .u64 (bs 1 : Nat), .int .u64 (bs 2 : Nat), .int .u64 (bs 3 : Nat)] 24)).alloc (.cells #[.int .u64 0, .int .u64 0, .int .u64 0, .int .u64 0, .int .u64 0, .int .u64 0, .int .u64 0, .int .u64 0] 43)).alloc (.cells #[.int .u64 0, .int .u64 0, .int .u64 0, .int .u64 0] 24)) (by go_cell) (by go_cell) (by go_cell) (by go_cell)).mono ?_
  rintro e w' ⟨rfl, rfl⟩
  go_wp2_with fail
  refine (hL _).mono ?_
  rintro e w' ⟨rfl, rfl⟩
  clear ck
  go_wp2_with fail
  go_cut [8] (fun v wx => CutE w ((((w.alloc (.cells #[.int .u64 (xs 0 : Nat), .int .u64 (xs 1 : Nat), .int .u64 (xs 2 : Nat), .int .u64 (xs 3 : Nat), .int .u64 (xs 4 : Nat), .int .u64 (xs 5 : Nat), .int .u64 (xs 6 : Nat), .int .u64 (xs 7 : Nat)] 43)).alloc (.cells #[.int .u64 (bs 0 : Nat), .int .u64 (bs 1 : Nat), .int .u64 (bs 2 : Nat), .int .u64 (bs 3 : Nat)] 24)).alloc (.cells #[.int .u64 0, .int .u64 0, .int .u64 0, .int .u64 0, .int .u64 0, .int .u64 0, .int .u64 0, .int .u64 0] 43)).alloc (.cells #[.int .u64 0, .int .u64 0, .int .u64 0, .int .u64 0] 24)) (w.heap.size + 1 + 1 + 1 + 1) ds v wx)
  case first =>
    go_region_with (first | (go_at_call 11; refine (HOF.out _).mono ?_; rintro e w' ⟨rfl, rfl⟩) | (go_at_call 33; refine (HSH.out _).mono ?_; rintro e w' ⟨rfl, hb⟩; (try (refine after4k (w.heap.size + 1 + 1 + 1 + 1) hb ?_ ?_ ?_ ?_ ?_ ?_ ?_ ?_ ?_ ?_; (focus (first | (simp; done) | (simp; omega))); (focus (go_cell; done)); (focus (go_cell; done)); (focus (go_cell; done)); (focus (go_cell; done)); (focus (go_cell; done)); (focus (go_cell; done)); (focus (go_cell; done)); (focus (go_cell; done)); rintro ⟨q0, q1, q2, q3⟩ ⟨fq0, fq1, fq2, fq3⟩ zq)); (try (refine after4k (w.heap.size + 1 + 1 + 1 + 1 + 1) hb ?_ ?_ ?_ ?_ ?_ ?_ ?_ ?_ ?_ ?_; (focus (first | (simp; done) | (simp; omega))); (focus (go_cell; done)); (focus (go_cell; done)); (focus (go_cell; done)); (focus (go_cell; done)); (focus (go_cell; done)); (focus (go_cell; done)); (focus (go_cell; done)); (focus (go_cell; done)); rintro ⟨r0, r1, r2, r3⟩ ⟨fr0, fr1, fr2, fr3⟩ zr))))
    all_goals go_wp2_with fail
    all_goals go_meet
    all_goals
      have hbs := hb.size
      have hb2 : Below (w.heap.size + 1 + 1 + 1 + 1) ((((w.alloc (.cells #[.int .u64 (xs 0 : Nat), .int .u64 (xs 1 : Nat), .int .u64 (xs 2 : Nat), .int .u64 (xs 3 : Nat), .int .u64 (xs 4 : Nat), .int .u64 (xs 5 : Nat), .int .u64 (xs 6 : Nat), .int .u64 (xs 7 : Nat)] 43)).alloc (.cells #[.int .u64 (bs 0 : Nat), .int .u64 (bs 1 : Nat), .int .u64 (bs 2 : Nat), .int .u64 (bs 3 : Nat)] 24)).alloc (.cells #[.int .u64 0, .int .u64 0, .int .u64 0, .int .u64 0, .int .u64 0, .int .u64 0, .int .u64 0, .int .u64 0] 43)).alloc (.cells #[.int .u64 0, .int .u64 0, .int .u64 0, .int .u64 0] 24)) w' := Below.trans (by go_grown) (hb.mono (by first | (simp; done) | (simp; omega)))
      simp at hbs
      refine cutE_mk ?_ ?_ ?_ H0.out (by omega) ?_ ?_ ?_ ?_
      · first | omega | (simp; omega)
      · first | omega | (simp; done) | (simp; omega)
      · go_grown
      · go_cell
      · go_cell
      · go_cell
      · go_cell
  case rest =>
    obtain ⟨D, rfl, hD1, hD2, hB1, hB2, cD⟩ := hcut
    have a0 : wc.cell? ⟨w.heap.size, 0, none⟩ = some (.int .u64 (xs 0 : Nat)) := (hB1.cell (p := ⟨w.heap.size, 0, none⟩) (by simp; omega)).trans (by go_cell)
    have a1 : wc.cell? ⟨w.heap.size, 1, none⟩ = some (.int .u64 (xs 1 : Nat)) := (hB1.cell (p := ⟨w.heap.size, 1, none⟩) (by simp; omega)).trans (by go_cell)
    have a2 : wc.cell? ⟨w.heap.size, 2, none⟩ = some (.int .u64 (xs 2 : Nat)) := (hB1.cell (p := ⟨w.heap.size, 2, none⟩) (by simp; omega)).trans (by go_cell)
    have a3 : wc.cell? ⟨w.heap.size, 3, none⟩ = some (.int .u64 (xs 3 : Nat)) := (hB1.cell (p := ⟨w.heap.size, 3, none⟩) (by simp; omega)).trans (by go_cell)
    have a4 : wc.cell? ⟨w.heap.size, 4, none⟩ = some (.int .u64 (xs 4 : Nat)) := (hB1.cell (p := ⟨w.heap.size, 4, none⟩) (by simp; omega)).trans (by go_cell)
    have a5 : wc.cell? ⟨w.heap.size, 5, none⟩ = some (.int .u64 (xs 5 : Nat)) := (hB1.cell (p := ⟨w.heap.size, 5, none⟩) (by simp; omega)).trans (by go_cell)
    have a6 : wc.cell? ⟨w.heap.size, 6, none⟩ = some (.int .u64 (xs 6 : Nat)) := (hB1.cell (p := ⟨w.heap.size, 6, none⟩) (by simp; omega)).trans (by go_cell)
    have a7 : wc.cell? ⟨w.heap.size, 7, none⟩ = some (.int .u64 (xs 7 : Nat)) := (hB1.cell (p := ⟨w.heap.size, 7, none⟩) (by simp; omega)).trans (by go_cell)
    go_wp2_with fail
    refine (HR.out _).mono ?_
    rintro e w2 ⟨rfl, hb⟩
    have hsz : wc.heap.size ≤ w2.heap.size := hb.size
    have g0 : w2.cell? ⟨w.heap.size, 0, none⟩ = some (.int .u64 (xs 0 : Nat)) := (hb.cell (p := ⟨w.heap.size, 0, none⟩) (by show w.heap.size < wc.heap.size; omega)).trans a0
    have g1 : w2.cell? ⟨w.heap.size, 1, none⟩ = some (.int .u64 (xs 1 : Nat)) := (hb.cell (p := ⟨w.heap.size, 1, none⟩) (by show w.heap.size < wc.heap.size; omega)).trans a1
    have g2 : w2.cell? ⟨w.heap.size, 2, none⟩ = some (.int .u64 (xs 2 : Nat)) := (hb.cell (p := ⟨w.heap.size, 2, none⟩) (by show w.heap.size < wc.heap.size; omega)).trans a2
    have g3 : w2.cell? ⟨w.heap.size, 3, none⟩ = some (.int .u64 (xs 3 : Nat)) := (hb.cell (p := ⟨w.heap.size, 3, none⟩) (by show w.heap.size < wc.heap.size; omega)).trans a3
    have g4 : w2.cell? ⟨w.heap.size, 4, none⟩ = some (.int .u64 (xs 4 : Nat)) := (hb.cell (p := ⟨w.heap.size, 4, none⟩) (by show w.heap.size < wc.heap.size; omega)).trans a4
    have g5 : w2.cell? ⟨w.heap.size, 5, none⟩ = some (.int .u64 (xs 5 : Nat)) := (hb.cell (p := ⟨w.heap.size, 5, none⟩) (by show w.heap.size < wc.heap.size; omega)).trans a5
    have g6 : w2.cell? ⟨w.heap.size, 6, none⟩ = some (.int .u64 (xs 6 : Nat)) := (hb.cell (p := ⟨w.heap.size, 6, none⟩) (by show w.heap.size < wc.heap.size; omega)).trans a6
    have g7 : w2.cell? ⟨w.heap.size, 7, none⟩ = some (.int .u64 (xs 7 : Nat)) := (hb.cell (p := ⟨w.heap.size, 7, none⟩) (by show w.heap.size < wc.heap.size; omega)).trans a7
    obtain ⟨y0, y1, y2, y3⟩ := cD.below hb hD2
    have J4 := Lib.hid ((I4.out.below hB1 (by omega)).below hb (by omega))
    have J5 := Lib.hid ((I5.out.below hB1 (by omega)).below hb (by omega))
    have hB3 : Below w.heap.size w w2 := hB2.trans (hb.mono (by omega))
    clear hb hB1 hB2 a0 a1 a2 a3 a4 a5 a6 a7 cD
    have hDlt : D < w2.heap.size := by omega
    have hwlt : w.heap.size < w2.heap.size := by omega
    have hl5 : w.heap.size + 1 + 1 + 1 < w2.heap.size := J5.out.lt
    have hDW : DivW w w2.heap.size (w2.heap.size + 1) D (w2.heap.size + 1 + 1) ds rs (fun _ => 0) ((w2.alloc (.cells #[.int .u64 (rs 0 : Nat), .int .u64 (rs 1 : Nat), .int .u64 (rs 2 : Nat), .int .u64 (rs 3 : Nat), .int .u64 (rs 4 : Nat), .int .u64 (rs 5 : Nat), .int .u64 (rs 6 : Nat), .int .u64 (rs 7 : Nat), .int .u64 (rs 8 : Nat)] 60)).alloc (.cells #[.int .u64 0, .int .u64 0, .int .u64 0, .int .u64 0, .int .u64 0, .int .u64 0, .int .u64 0, .int .u64 0] 43)) :=
      ⟨hB3.trans (Below.mono (B := w2.heap.size) (by go_grown) (by omega)), by simp, (J4.out.alloc _).alloc _, (J5.out.alloc _).alloc _,
        upto9 (P := fun j => ((w2.alloc (.cells #[.int .u64 (rs 0 : Nat), .int .u64 (rs 1 : Nat), .int .u64 (rs 2 : Nat), .int .u64 (rs 3 : Nat), .int .u64 (rs 4 : Nat), .int .u64 (rs 5 : Nat), .int .u64 (rs 6 : Nat), .int .u64 (rs 7 : Nat), .int .u64 (rs 8 : Nat)] 60)).alloc (.cells #[.int .u64 0, .int .u64 0, .int .u64 0, .int .u64 0, .int .u64 0, .int .u64 0, .int .u64 0, .int .u64 0] 43)).cell? ⟨w2.heap.size, j, none⟩ = some (.int .u64 (rs j : Nat))) (by go_cell) (by go_cell) (by go_cell) (by go_cell) (by go_cell) (by go_cell) (by go_cell) (by go_cell) (by go_cell) ,
        upto9 (P := fun j => ((w2.alloc (.cells #[.int .u64 (rs 0 : Nat), .int .u64 (rs 1 : Nat), .int .u64 (rs 2 : Nat), .int .u64 (rs 3 : Nat), .int .u64 (rs 4 : Nat), .int .u64 (rs 5 : Nat), .int .u64 (rs 6 : Nat), .int .u64 (rs 7 : Nat), .int .u64 (rs 8 : Nat)] 60)).alloc (.cells #[.int .u64 0, .int .u64 0, .int .u64 0, .int .u64 0, .int .u64 0, .int .u64 0, .int .u64 0, .int .u64 0] 43)).frozen? ⟨w2.heap.size, j, none⟩ = false) (by go_cell) (by go_cell) (by go_cell) (by go_cell) (by go_cell) (by go_cell) (by go_cell) (by go_cell) (by go_cell) ,
        upto8 (P := fun j => ((w2.alloc (.cells #[.int .u64 (rs 0 : Nat), .int .u64 (rs 1 : Nat), .int .u64 (rs 2 : Nat), .int .u64 (rs 3 : Nat), .int .u64 (rs 4 : Nat), .int .u64 (rs 5 : Nat), .int .u64 (rs 6 : Nat), .int .u64 (rs 7 : Nat), .int .u64 (rs 8 : Nat)] 60)).alloc (.cells #[.int .u64 0, .int .u64 0, .int .u64 0, .int .u64 0, .int .u64 0, .int .u64 0, .int .u64 0, .int .u64 0] 43)).cell? ⟨w2.heap.size + 1, j, none⟩ = some (.int .u64 0)) (by go_cell) (by go_cell) (by go_cell) (by go_cell) (by go_cell) (by go_cell) (by go_cell) (by go_cell) ,
        upto8 (P := fun j => ((w2.alloc (.cells #[.int .u64 (rs 0 : Nat), .int .u64 (rs 1 : Nat), .int .u64 (rs 2 : Nat), .int .u64 (rs 3 : Nat), .int .u64 (rs 4 : Nat), .int .u64 (rs 5 : Nat), .int .u64 (rs 6 : Nat), .int .u64 (rs 7 : Nat), .int .u64 (rs 8 : Nat)] 60)).alloc (.cells #[.int .u64 0, .int .u64 0, .int .u64 0, .int .u64 0, .int .u64 0, .int .u64 0, .int .u64 0, .int .u64 0] 43)).frozen? ⟨w2.heap.size + 1, j, none⟩ = false) (by go_cell) (by go_cell) (by go_cell) (by go_cell) (by go_cell) (by go_cell) (by go_cell) (by go_cell) ,
        upto4 (P := fun j => ((w2.alloc (.cells #[.int .u64 (rs 0 : Nat), .int .u64 (rs 1 : Nat), .int .u64 (rs 2 : Nat), .int .u64 (rs 3 : Nat), .int .u64 (rs 4 : Nat), .int .u64 (rs 5 : Nat), .int .u64 (rs 6 : Nat), .int .u64 (rs 7 : Nat), .int .u64 (rs 8 : Nat)] 60)).alloc (.cells #[.int .u64 0, .int .u64 0, .int .u64 0, .int .u64 0, .int .u64 0, .int .u64 0, .int .u64 0, .int .u64 0] 43)).cell? ⟨D, j, none⟩ = some (.int .u64 (ds j : Nat))) (by go_cell) (by go_cell) (by go_cell) (by go_cell) ⟩
    have HDW := Lib.hid hDW; clear hDW
    clear y0 y1 y2 y3
    go_wp2_with fail
    refine (HPa.out w.heap.size ((w2.alloc (.cells #[.int .u64 (rs 0 : Nat), .int .u64 (rs 1 : Nat), .int .u64 (rs 2 : Nat), .int .u64 (rs 3 : Nat), .int .u64 (rs 4 : Nat), .int .u64 (rs 5 : Nat), .int .u64 (rs 6 : Nat), .int .u64 (rs 7 : Nat), .int .u64 (rs 8 : Nat)] 60)).alloc (.cells #[.int .u64 0, .int .u64 0, .int .u64 0, .int .u64 0, .int .u64 0, .int .u64 0, .int .u64 0, .int .u64 0] 43)) (by go_cell) (by go_cell) (by go_cell) (by go_cell) (by go_cell) (by go_cell) (by go_cell) (by go_cell)).mono ?_
    rintro e w' ⟨rfl, rfl⟩
    clear g0 g1 g2 g3 g4 g5 g6 g7
    have hle : val rs 9 = val (fun _ => 0) 8 * val ds n + val rs 9 := by rw [val_zero 8 (fun _ _ => rfl)]; omega
    have HLE := Lib.hid hle; clear hle
    go_wp2_with fail
    go_loopw [11] (fun iv wr => ∃ (z : Int) (cur q : Nat → Nat), iv = .int .i64 z ∧ -4 ≤ z ∧ z ≤ (m : Int) - n ∧ Hid (DivW w w2.heap.size (w2.heap.size + 1) D (w2.heap.size + 1 + 1) ds cur q wr ∧ (∀ j, j < 9 → cur j < 18446744073709551616) ∧ (∀ j, j < 8 → q j < 18446744073709551616) ∧ (∀ j, j < (z + 1).toNat → q j = 0) ∧ val q 8 * val ds n + val cur 9 = val rs 9 ∧ val cur 9 < val ds n * 18446744073709551616 ^ (z + 1).toNat)) (fun iv _ => (intOf iv + 5).toNat)
    case atStart =>
      refine ⟨(m : Int) - n, rs, fun _ => 0, rfl, by omega, by omega, Lib.hid ⟨HDW.out, HRL.out, fun _ _ => by show 0 < _; omega, fun _ _ => rfl, HLE.out.symm, ?_⟩⟩
      rw [show ((m : Int) - n + 1).toNat = m + 1 - n by omega]; exact HST.out
    case round =>
      obtain ⟨z, cur, q, rfl, hz0, hz1, H⟩ := hrel
      by_cases hz : 0 ≤ z
      · obtain ⟨i, rfl⟩ := Int.eq_ofNat_of_zero_le hz
        have hi4 : (i : Int) + n ≤ 8 := by omega
        have hi8 : (i : Int) < 8 := by omega
        have w1 : IntKind.i64.wrap ((i : Int) + n) = (i : Int) + n := IntWalk.i64_in _ (by omega)
        have w2' : IntKind.i64.wrap ((i : Int) + n + 1) = (i : Int) + n + 1 := IntWalk.i64_in _ (by omega)
        have w3 : IntKind.i64.wrap (i : Int) = (i : Int) := IntWalk.i64_in _ (by omega)
        have w4 : IntKind.i64.wrap (n : Int) = (n : Int) := IntWalk.i64_in _ (by omega)
        have sl9 := fun w => slice9 w2.heap.size i n (by omega) w
        have sl4 := fun w => slice4 D n (by omega) w
        have hD1 : 0 < val ds n := by
          have h1 := val_ge ds k
          have h2 := Nat.mul_pos (Nat.pow_pos (n := k) (show 0 < 18446744073709551616 by omega)) (show 0 < ds k by have := HDK.out; omega)
          rw [HN.out]; omega
        have hDn : val ds n ≤ 18446744073709551616 ^ n := by rw [HN.out]; exact Nat.le_of_lt (val_lt HDL.out)
        have hlt9 : val cur 9 < val ds n * 18446744073709551616 ^ (i + 1) := by have := H.out.2.2.2.2.2; rwa [show ((i : Int) + 1).toNat = i + 1 by omega] at this
        have htk := div_take (i := i) hDn (by omega) hlt9
        have hcall := step_any w2.heap.size i (9 - i) D 4 k (fun j => cur (i + j)) ds (by omega) (fun j hj => H.out.2.1 _ (by have := HN.out; omega)) HDL.out HDK.out (by rw [show k + 2 = n + 1 by rw [HN.out], ← HN.out]; exact htk.2.2) (by omega) wr.drew (fun j hj => H.out.1.rest _ (by have := HN.out; omega)) (fun j hj => H.out.1.restf _ (by have := HN.out; omega)) (fun j hj => H.out.1.by_ _ (by omega))
        rw [← HN.out] at hcall
        have HCA := Lib.hid hcall; clear hcall
        have HD1 := Lib.hid hD1; clear hD1
        have HDn := Lib.hid hDn; clear hDn
        have HLT := Lib.hid hlt9; clear hlt9 htk
        have hqc : ∀ w3, But w2.heap.size wr.drew w3 → w3.cell? ⟨w2.heap.size + 1, i, none⟩ = some (.int .u64 (q i : Nat)) ∧ w3.frozen? ⟨w2.heap.size + 1, i, none⟩ = false := fun w3 hb =>
          ⟨(hb.cell (p := ⟨w2.heap.size + 1, i, none⟩) (by show w2.heap.size + 1 ≠ w2.heap.size; omega)).trans (H.out.1.quo i (by omega)), (World.frozen?_of_block (w := wr.drew) (a := ⟨w2.heap.size + 1, i, none⟩) (hb.block (w2.heap.size + 1) (by omega))).trans (H.out.1.quof i (by omega))⟩
        have HQC := Lib.hid hqc; clear hqc
        clear hz
        go_wp2_with fail
        go_region_with (go_at_call 35; refine HCA.out.mono ?_; rintro e w3 ⟨ns, rfl, hn1, hn2, hn3⟩; obtain ⟨cq, fq⟩ := HQC.out _ hn3.1; have HN1 := Lib.hid hn1; have HN2 := Lib.hid hn2; have HN3 := Lib.hid hn3; clear hn1 hn2 hn3)
        go_wp2_with fail
        go_roundw
        case rel =>
          obtain ⟨e1, e2, e3⟩ := div_round (q := q) (ns := ns) H.out.2.1 HD1.out HDn.out (by omega) (by omega) HLT.out H.out.2.2.2.2.1 (H.out.2.2.2.1 i (by omega)) rfl HN2.out
          have hstep := H.out.1.drew.step (part := val (fun j => cur (i + j)) (n + 1) / val ds n) HN3.out (by omega) (by omega) (by omega) (by omega) (by omega) hl5 (by omega)
          rw [Int.natCast_ediv] at hstep
          refine ⟨(i : Int) - 1, curN cur ns i n, quoN q i (val (fun j => cur (i + j)) (n + 1) / val ds n), rfl, by omega, by omega, Lib.hid ⟨hstep, fun j hj => ?_, fun j hj => ?_, fun j hj => ?_, e1, ?_⟩⟩
          · unfold curN; split
            · exact HN1.out _ (by omega)
            · exact H.out.2.1 j hj
          · unfold quoN; split
            · exact e3
            · exact H.out.2.2.1 j hj
          · unfold quoN; rw [if_neg (by omega)]; exact H.out.2.2.2.1 j (by omega)
          · rw [show ((i : Int) - 1 + 1).toNat = i by omega]; exact e2
        case measure => simp [intOf]; omega
      · have hend : val cur 9 < val ds n := by have := H.out.2.2.2.2.2; rwa [show (z + 1).toNat = 0 by omega, Nat.pow_zero, Nat.mul_one] at this
        have HE := Lib.hid hend; clear hend
        have hlt : z < 0 := by omega
        have hzf : decide (0 ≤ z) = false := by rw [decide_eq_false_iff_not]; exact hz
        go_wp2_with fail
        have hat := arrayAt4
        have hcl : ClQ w w2.heap.size (w2.heap.size + 1) cur q wr.drew := ⟨H.out.1.below.drew, H.out.1.r4, H.out.1.r5, H.out.1.quo, H.out.1.rest, by show w2.heap.size + 1 < wr.heap.size; rw [H.out.1.size]; omega, by show w2.heap.size < wr.heap.size; rw [H.out.1.size]; omega⟩
        refine region_quiet_tail 8 (ClQ w w2.heap.size (w2.heap.size + 1) cur q) (by kernel_rfl) (by kernel_rfl) hcl ?_
        simp only [List.take_succ_cons, List.take_zero, List.drop_succ_cons, List.drop_zero]
        clear hcl
        refine wpQuiet_step (fun K hK => ?_)
        rw [if_pos (by rfl)]
        refine ⟨.agg #[.int .u64 (q 0 : Nat), .int .u64 (q 1 : Nat), .int .u64 (q 2 : Nat), .int .u64 (q 3 : Nat), .int .u64 (q 4 : Nat), .int .u64 (q 5 : Nat), .int .u64 (q 6 : Nat), .int .u64 (q 7 : Nat)], fun wx hC => ?_, hK _ ?_⟩
        · obtain ⟨q0, q1, q2, q3, q4, q5, q6, q7⟩ := hC.quos
          clear hC
          go_simp
        clear hK K
        refine wpQuiet_step (fun K hK => ?_)
        go_simp
        refine ⟨_, fun _ _ => rfl, hK _ ?_⟩
        clear hK K
        refine wpQuiet_step (fun K hK => ?_)
        go_simp
        refine ⟨_, fun _ _ => rfl, hK _ ?_⟩
        clear hK K
        refine wpQuiet_step (fun K hK => ?_)
        rw [if_pos (by rfl)]
        refine ⟨.agg #[.int .u64 (s : Nat), .int .u64 0, .int .u64 0, .int .u64 0], fun wx hC => ?_, hK _ ?_⟩
        · go_simp
          refine (HOF.out _).mono ?_
          rintro e w' ⟨rfl, rfl⟩
          exact ⟨rfl, hC.grown (by go_grown)⟩
        clear hK K
        refine wpQuiet_step (fun K hK => ?_)
        go_simp
        refine ⟨_, fun _ _ => rfl, hK _ ?_⟩
        clear hK K
        refine wpQuiet_step (fun K hK => ?_)
        go_simp
        refine ⟨_, fun _ _ => rfl, hK _ ?_⟩
        clear hK K
        refine wpQuiet_step (fun K hK => ?_)
        rw [if_pos (by rfl)]
        refine ⟨.agg #[.int .u64 (cur 0 : Nat), .int .u64 (cur 1 : Nat), .int .u64 (cur 2 : Nat), .int .u64 (cur 3 : Nat)], fun wx hC => ?_, hK _ ?_⟩
        · obtain ⟨c0, c1, c2, c3⟩ := hC.rests
          clear hC
          go_simp
        clear hK K
        refine wpQuiet_step (fun K hK => ?_)
        rw [if_pos (by rfl)]
        refine ⟨.agg #[.int .u64 (sr cur 0 : Nat), .int .u64 (sr cur 1 : Nat), .int .u64 (sr cur 2 : Nat), .int .u64 (sr cur 3 : Nat)], fun wx hC => ?_, hK _ ?_⟩
        · go_simp
          refine (HSR.out _ H.out.2.1 _).mono ?_
          rintro e w' ⟨rfl, hb⟩
          exact ⟨rfl, hC.grown hb⟩
        clear hK K
        refine wpQuiet_nil ?_
        intro wx hC
        have h4 := hC.r4
        have h5 := hC.r5
        have hB := Lib.hid hC.below
        clear hC
        obtain ⟨⟨c0, c1, c2, c3, c4, c5, c6, c7⟩, ⟨e0, e1, e2, e3, e4, e5, e6, e7⟩⟩ := h4.z8
        obtain ⟨⟨k0, k1, k2, k3⟩, ⟨l0, l1, l2, l3⟩⟩ := h5.z4
        have hlt4 := h4.lt
        have hlt5 := h5.lt
        clear h4 h5
        go_wp2
        refine bodyPost_ret (v := .tuple #[.agg #[.int .u64 (q 0 : Nat), .int .u64 (q 1 : Nat), .int .u64 (q 2 : Nat), .int .u64 (q 3 : Nat), .int .u64 (q 4 : Nat), .int .u64 (q 5 : Nat), .int .u64 (q 6 : Nat), .int .u64 (q 7 : Nat)], .agg #[.int .u64 (sr cur 0 : Nat), .int .u64 (sr cur 1 : Nat), .int .u64 (sr cur 2 : Nat), .int .u64 (sr cur 3 : Nat)]]) (by simp [results, Tryd.results18, go_sem, c0, c1, c2, c3, c4, c5, c6, c7, k0, k1, k2, k3]; try rfl) rfl ⟨cur, q, rfl, H.out.2.1, H.out.2.2.1, H.out.2.2.2.2.1, HE.out, ?_⟩
        have hB2 := hB.out
        go_grown
end Go.Proofs.YtmhgnlngcjckbaaDoor

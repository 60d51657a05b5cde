/- What word.Decimal says of 42, and that what the statements call to see whether anything is reckoned answers true. (With it, merged: Dg · Sum · Word · Prod · Refs · Ring · Cmp · Lives.) -/
import Derived.Test.YthfadinocadhaaaDoorM3
import Derived.Laws.Bits64b
import Derived.Laws.OwnMore
import Derived.Deep.AppendLies
import Derived.Test.YthfadinocadhaaaDoorM2
import Derived.BigQuiet
import Derived.WalkSmall
import Derived.OwnWalk
import Derived.Deep.QuietTactic
namespace Go.Proofs.YthfadinocadhaaaDoor
open Go.RowKit

/-- The number of n digits of 16 bits. -/
def vd (d : Nat → Nat) : Nat → Nat
  | 0 => 0
  | n + 1 => vd d n + 65536 ^ n * d n
theorem vd_congr {d e : Nat → Nat} {n : Nat} (h : ∀ j, j < n → d j = e j) : vd d n = vd e n := by
  induction n with
  | zero => rfl
  | succ n ih => simp only [vd]; rw [ih (fun j hj => h j (by omega)), h n (by omega)]
theorem vd_lt {d : Nat → Nat} {n : Nat} (h : ∀ j, j < n → d j < 65536) : vd d n < 65536 ^ n := by
  induction n with
  | zero => simp [vd]
  | succ n ih =>
    have h1 := ih (fun j hj => h j (by omega))
    have h2 : 65536 ^ n * d n ≤ 65536 ^ n * 65535 := Nat.mul_le_mul_left _ (by have := h n (by omega); omega)
    simp only [vd]
    rw [Nat.pow_succ]
    omega
theorem vd_mod (X n : Nat) : vd (fun j => X / 65536 ^ j % 65536) n = X % 65536 ^ n := by
  induction n with
  | zero => simp [vd, Nat.mod_one]
  | succ n ih => simp only [vd]; rw [ih, Nat.pow_succ, Nat.mod_mul]
/-- Digits, and noughts behind them. -/
def pad (d : Nat → Nat) (n j : Nat) : Nat := if j < n then d j else 0
theorem vd_pad (d : Nat → Nat) (n k : Nat) (h : n ≤ k) : vd (pad d n) k = vd d n := by
  induction k with
  | zero =>
    obtain rfl : n = 0 := by omega
    rfl
  | succ k ih =>
    by_cases e : n = k + 1
    · subst e; exact vd_congr (fun j hj => by simp [pad, hj])
    · simp only [vd]
      rw [ih (by omega), show pad d n k = 0 by simp [pad]; omega]
      simp

/-- Digits as cells. -/
def dl (d : Nat → Nat) (n : Nat) : List Value := (List.range n).map fun j => .int .u64 (d j : Nat)
theorem dl_len (d : Nat → Nat) (n : Nat) : (dl d n).length = n := by simp [dl]
theorem dl_at (d : Nat → Nat) (n j : Nat) (h : j < n) : (dl d n)[j]? = some (.int .u64 (d j : Nat)) := by simp [dl, h]
/-- One digit more. -/
def upd (d : Nat → Nat) (k y j : Nat) : Nat := if j = k then y else d j
theorem dl_snoc (d : Nat → Nat) (k y : Nat) : dl d k ++ [.int .u64 (y : Nat)] = dl (upd d k y) (k + 1) := by
  unfold dl
  rw [List.range_succ, List.map_append]
  congr 1
  · apply List.map_congr_left
    intro j hj
    have : j < k := by simpa using hj
    simp [upd, show ¬ j = k by omega]
  · simp [upd]
theorem upd_lt {d : Nat → Nat} {k y : Nat} (h : ∀ j, j < k → d j < 65536) (hy : y < 65536) : ∀ j, j < k + 1 → upd d k y j < 65536 := fun j hj => by
  unfold upd
  by_cases e : j = k
  · simp [e, hy]
  · simp only [e, if_false]; exact h j (by omega)
theorem vd_upd (d : Nat → Nat) (k y : Nat) : vd (upd d k y) (k + 1) = vd d k + 65536 ^ k * y := by
  simp only [vd]
  rw [vd_congr (d := upd d k y) (e := d) (fun j hj => by simp [upd, show ¬ j = k by omega])]
  simp [upd]

/-- A slice of digits that lies in block b. -/
def Dg (w : World) (b n : Nat) (d : Nat → Nat) : Prop := b < w.heap.size ∧ ∀ j, j < n → w.cell? ⟨b, j, none⟩ = some (.int .u64 (d j : Nat))
theorem Dg.below {w w' : World} {b n : Nat} {d : Nat → Nat} (h : Dg w b n d) (hb : Below w.heap.size w w') : Dg w' b n d :=
  ⟨Nat.lt_of_lt_of_le h.1 hb.size, fun j hj => (hb.cell (p := ⟨b, j, none⟩) h.1).trans (h.2 j hj)⟩
/-- What a call that makes n digits leaves, their number V. -/
def MkDg (n V : Nat) (w : World) (e : Ending) (w' : World) : Prop :=
  ∃ (b cap : Nat) (d : Nat → Nat), e = .returned (.slice (some ⟨b, 0, none⟩) n cap) ∧ w.heap.size ≤ b ∧ Dg w' b n d ∧ (∀ j, j < n → d j < 65536) ∧ vd d n = V ∧ Below w.heap.size w w'

theorem info22 : (Tryd.prog.info? 22).map (fun i => (i.zero, i.size, i.bytes)) = some (some (.int .u64 0), 1, 8) := by kernel_rfl

/-- What a round that appends one digit leaves. -/
theorem push_rel {w wr w1 : World} {base : Nat} {v v' X : Value} {k y : Nat} {ns : Nat → Nat} (hown : wr.ownsRow base 22 1 v k (dl ns k)) (hb : Below base w wr) (hsz : base ≤ wr.heap.size)
    (hown' : w1.ownsRow base 22 1 v' (k + 1) (dl ns k ++ [.int .u64 (y : Nat)])) (hgrow : (wr.alloc (.cells #[X] 22)).grownBy w1 v.ownBlock) :
    w1.ownsRow base 22 1 v' (k + 1) (dl (upd ns k y) (k + 1)) ∧ Below base w w1 := by
  rw [dl_snoc] at hown'
  exact ⟨hown', (hb.alloc hsz _).grown hgrow (by simp; omega) (fun j hj => (hown.lt j hj).1)⟩

theorem made_of {w w' : World} {base : Nat} {v : Value} {n : Nat} {d : Nat → Nat} (hbs : w.heap.size ≤ base) (h : w'.ownsRow base 22 1 v n (dl d n)) (hn : 0 < n) (hd : ∀ j, j < n → d j < 65536) (hb : Below w.heap.size w w') : MkDg n (vd d n) w (.returned v) w' := by
  obtain ⟨hl, h1⟩ := h
  rcases h1 with ⟨-, h0⟩ | ⟨g, cap, cur, rfl, hg, hc, hnc, hm, hcs, ht⟩
  · omega
  · refine ⟨g, cap, d, rfl, Nat.le_trans hbs hg, ⟨(Array.getElem?_eq_some_iff.1 hc).1, fun j hj => ?_⟩, hd, rfl, hb⟩
    rw [cell_of_row _ _ _ _ _ _ hc, ← dl_at d n j hj, ← ht]
    simp only [Nat.mul_one, List.getElem?_take, hj, if_true]
    simp

theorem and_low16 (z : Nat) (h : z < 18446744073709551616) : bits .and .u64 z 65535 = ((z % 65536 : Nat) : Int) := by
  have := bits_and_u64_nat z 65535 h (by omega)
  rw [show z &&& 65535 = z % 65536 from Nat.and_two_pow_sub_one_eq_mod z 16] at this
  exact this

theorem dg_of (x k p s : Nat) (hp : k / 4 = p) (hs : 16 * (k % 4) = s) : pN x p / 2 ^ s % 65536 = x % 115792089237316195423570985008687907853269984665640564039457584007913129639936 / 65536 ^ k % 65536 := by
  subst hp hs
  unfold pN
  have e : 18446744073709551616 = 2 ^ (16 * (k % 4)) * 2 ^ (64 - 16 * (k % 4)) := by rw [← Nat.pow_add, show 16 * (k % 4) + (64 - 16 * (k % 4)) = 64 by omega]
  have e2 : (65536 : Nat) = 2 ^ 16 := by rfl
  rw [e, Nat.mod_mul_right_div_self, e2, Nat.mod_mod_of_dvd _ (Nat.pow_dvd_pow 2 (by omega)), Nat.div_div_eq_div_mul, ← Nat.pow_add, ← Nat.pow_mul, show 64 * (k / 4) + 16 * (k % 4) = 16 * k by omega]

set_option maxRecDepth 100000 in
set_option maxHeartbeats 1000000 in
theorem digits_walk (x a0 a1 a2 a3 : Nat) (hp : ∀ p, p < 4 → (#[Value.int .u64 a0, .int .u64 a1, .int .u64 a2, .int .u64 a3] : Array Value)[p]? = some (.int .u64 (pN x p : Nat))) (w : World) :
    Calls Tryd.prog 63 #[.agg #[.int .u64 a0, .int .u64 a1, .int .u64 a2, .int .u64 a3]] w (MkDg 16 (x % 115792089237316195423570985008687907853269984665640564039457584007913129639936) w) := by
  have HP := Lib.hid hp; clear hp
  obtain ⟨i0, hi, hz0, hz1, hz2⟩ := info_parts info22
  go_enter Tryd.func63, Tryd.ntmps63
  go_wp2
  go_loopw [3, 4] (fun v i wr => ∃ k : Nat, k ≤ 16 ∧ i = .int .i64 k ∧ Hid (wr.ownsRow (w.heap.size + 1) 22 1 v k (dl (fun j => x % 115792089237316195423570985008687907853269984665640564039457584007913129639936 / 65536 ^ j % 65536) k) ∧ Below (w.heap.size + 1) (w.alloc (.cells #[Value.int .u64 a0, .int .u64 a1, .int .u64 a2, .int .u64 a3] 24)) wr))
    (fun _ i _ => 16 - (intOf i).toNat)
  case atStart =>
    refine ⟨0, by omega, rfl, Lib.hid ⟨?_, by go_grown⟩⟩
    have h := World.ownsRow_made (base := w.heap.size + 1) (e := 22) (size := 1) (w.alloc (.cells #[Value.int .u64 a0, .int .u64 a1, .int .u64 a2, .int .u64 a3] 24)) #[] 0 (by simp) (by decide) (by simp)
    rw [World.size_alloc] at h
    exact h
  case round =>
    obtain ⟨k, hk, rfl, H⟩ := hrel
    have hk0 : (0 : Int) ≤ k := by omega
    have hk1 : (k : Int) ≤ 16 := by omega
    by_cases hlt : k < 16
    · obtain ⟨p, hp⟩ : ∃ p : Nat, (k : Int) / 4 = (p : Int) := ⟨k / 4, by omega⟩
      obtain ⟨s, hs⟩ : ∃ s : Nat, 16 * ((k : Int) % 4) = (s : Int) := ⟨16 * (k % 4), by omega⟩
      have hp0 : (0 : Int) ≤ p := by omega
      have hp1 : (p : Int) < 4 := by omega
      have hs0 : (0 : Int) ≤ s := by omega
      have hs1 : (s : Int) < 64 := by omega
      have ca : wr.cell? ⟨w.heap.size, p, none⟩ = some (.int .u64 (pN x p : Nat)) := (H.out.2.cell (p := ⟨w.heap.size, p, none⟩) (Nat.lt_succ_self _)).trans ((cell_of_row _ _ p _ _ _ (heap_alloc_new w _)).trans (HP.out p (by omega)))
      have hpl := pN_le x p
      have hv : bits .and .u64 (((pN x p : Nat) : Int) / 2 ^ s) 65535 = ((x % 115792089237316195423570985008687907853269984665640564039457584007913129639936 / 65536 ^ k % 65536 : Nat) : Int) := by
        rw [← dg_of x k p s (by omega) (by omega)]
        have h := and_low16 (pN x p / 2 ^ s) (Nat.lt_of_le_of_lt (Nat.div_le_self _ _) hpl)
        simpa using h
      have HV := Lib.hid hv; clear hv
      go_wp2_with (at_builtin; refine wpList_append_own _ rfl _ _ 51 rfl (w.heap.size + 1) 22 i0 (.int .u64 0) 1 8 Tryd.underlying51 hi hz0 hz1 hz2 rfl (by decide) _ _ _ rfl (H.out.1.alloc _) ⟨wr.heap.size, 0, none⟩ 1 1 [.int .u64 (bits .and .u64 (((pN x p : Nat) : Int) / 2 ^ s) 65535)] rfl rfl ?c1 ?c2 ?c3 ?c4 ?c5 ?_)
      case c1 => exact cell_one_new _ _ _
      case c2 => intro u hu; simp at hu; subst hu; rfl
      case c3 => unfold maxLen; omega
      case c4 => omega
      case c5 => have := H.out.2.size; simp at this; simp; omega
      intro v' w1 hown' hgrow _
      rw [HV.out] at hown'
      have HN := Lib.hid (push_rel H.out.1 H.out.2 (by have := H.out.2.size; simp at this; omega) hown' hgrow)
      clear hown' hgrow
      go_wp2
      go_roundw
      case rel =>
        refine ⟨k + 1, by omega, by go_num, Lib.hid ⟨?_, HN.out.2⟩⟩
        have e : dl (upd (fun j => x % 115792089237316195423570985008687907853269984665640564039457584007913129639936 / 65536 ^ j % 65536) k (x % 115792089237316195423570985008687907853269984665640564039457584007913129639936 / 65536 ^ k % 65536)) (k + 1) = dl (fun j => x % 115792089237316195423570985008687907853269984665640564039457584007913129639936 / 65536 ^ j % 65536) (k + 1) := by
          unfold dl; apply List.map_congr_left; intro j _; unfold upd; by_cases h : j = k <;> simp [h]
        rw [← e]; exact HN.out.1
      case measure => simp [intOf]; omega
    · obtain rfl : k = 16 := by omega
      go_wp2
      go_ret
      have R := made_of (w := w) (by omega) H.out.1 (by omega) (fun j _ => by omega) (Below.trans (by go_grown) (H.out.2.mono (by omega)))
      rw [vd_mod] at R
      rw [show x % 115792089237316195423570985008687907853269984665640564039457584007913129639936 % 65536 ^ 16 = x % 115792089237316195423570985008687907853269984665640564039457584007913129639936 from Nat.mod_mod _ _] at R
      exact R

-- WHAT Digits COMES TO.
theorem digits_any (x : Nat) (w : World) : Calls Tryd.prog 63 #[wv x] w (MkDg 16 (x % 115792089237316195423570985008687907853269984665640564039457584007913129639936) w) := by
  refine digits_walk x _ _ _ _ (fun p hp => ?_) w
  have h : p = 0 ∨ p = 1 ∨ p = 2 ∨ p = 3 := by omega
  rcases h with rfl | rfl | rfl | rfl
  · simp [pN]
  · simp [pN]; omega
  · simp [pN]; omega
  · simp [pN]; omega
end Go.Proofs.YthfadinocadhaaaDoor
namespace Go.Proofs.YthfadinocadhaaaDoor
open Go.RowKit

/-- One round's reckoning. -/
theorem sum_step {P x c N A B : Nat} (h : N + P * c = A + B) (ak bk : Nat) (hx : x = c + ak + bk) : N + P * (x % 65536) + P * 65536 * (x / 65536) = (A + P * ak) + (B + P * bk) := by
  have e : x = x % 65536 + 65536 * (x / 65536) := by omega
  have e1 : P * x = P * (x % 65536) + P * 65536 * (x / 65536) := by
    rw [Nat.mul_assoc, ← Nat.mul_add, ← e]
  have e2 : P * x = P * c + P * ak + P * bk := by rw [hx, Nat.mul_add, Nat.mul_add]
  omega

/-- What the loop of Sum keeps. -/
def SumRel (w : World) (n m k c : Nat) (da db : Nat → Nat) (v : Value) (wr : World) : Prop :=
  c ≤ 1 ∧ ∃ ns : Nat → Nat, wr.ownsRow w.heap.size 22 1 v k (dl ns k) ∧ (∀ j, j < k → ns j < 65536) ∧ vd ns k + 65536 ^ k * c = vd (pad da n) k + vd (pad db m) k ∧ Below w.heap.size w wr ∧ w.heap.size < wr.heap.size

theorem sum_next {w wr w1 : World} {n m k c x : Nat} {da db ns : Nat → Nat} {v v' X : Value} (hc : c ≤ 1) (hown : wr.ownsRow w.heap.size 22 1 v k (dl ns k)) (hns : ∀ j, j < k → ns j < 65536)
    (hv : vd ns k + 65536 ^ k * c = vd (pad da n) k + vd (pad db m) k) (hb : Below w.heap.size w wr) (hz : w.heap.size < wr.heap.size) (hx : x = c + pad da n k + pad db m k) (ha : pad da n k < 65536) (hbd : pad db m k < 65536)
    (hown' : w1.ownsRow w.heap.size 22 1 v' (k + 1) (dl ns k ++ [.int .u64 ((x % 65536 : Nat) : Int)])) (hgrow : (wr.alloc (.cells #[X] 22)).grownBy w1 v.ownBlock) :
    SumRel w n m (k + 1) (x / 65536) da db v' w1 := by
  obtain ⟨ho, hb'⟩ := push_rel hown hb (by omega) hown' hgrow
  have hs := hgrow.size
  simp at hs
  refine ⟨by omega, upd ns k (x % 65536), ho, upd_lt hns (by omega), ?_, hb', by omega⟩
  rw [vd_upd, Nat.pow_succ]
  exact sum_step hv _ _ hx

set_option maxRecDepth 100000 in
set_option maxHeartbeats 4000000 in
theorem sum_any (ba ca bb cb n m : Nat) (da db : Nat → Nat) (hn : (n : Int) ≤ 1000000) (hm : (m : Int) ≤ 1000000) (ha : ∀ j, j < n → da j < 65536) (hb : ∀ j, j < m → db j < 65536) (w : World) (hA : Dg w ba n da) (hB : Dg w bb m db) :
    Calls Tryd.prog 62 #[.slice (some ⟨ba, 0, none⟩) n ca, .slice (some ⟨bb, 0, none⟩) m cb] w (MkDg (max n m + 1) (vd da n + vd db m) w) := by
  have Ha := Lib.hid ha; clear ha
  have Hb := Lib.hid hb; clear hb
  have HA := Lib.hid hA; clear hA
  have HB := Lib.hid hB; clear hB
  obtain ⟨i0, hi, hz0, hz1, hz2⟩ := info_parts info22
  go_enter Tryd.func62, Tryd.ntmps62
  go_wp2
  go_loopw [5, 6, 7] (fun v cv i wr => ∃ k c : Nat, k ≤ max n m ∧ i = .int .i64 k ∧ cv = .int .u64 c ∧ Hid (SumRel w n m k c da db v wr)) (fun _ _ i _ => max n m - (intOf i).toNat)
  case atStart =>
    refine ⟨0, 0, by omega, rfl, rfl, Lib.hid ⟨by omega, da, ?_, by omega, rfl, by go_grown, by simp⟩⟩
    exact World.ownsRow_made (base := w.heap.size) (e := 22) (size := 1) w #[] 0 (by simp) (by decide) (by simp)
  case round =>
    obtain ⟨k, c, hk, rfl, rfl, H⟩ := hrel
    have hk0 : (0 : Int) ≤ k := by omega
    have hk1 : (k : Int) ≤ 1000000 := by omega
    obtain ⟨hc, ns, hown, hns, hval, hbel, hsz⟩ := H.out
    have hc0 : (0 : Int) ≤ c := by omega
    have hc1 : (c : Int) ≤ 1 := by omega
    have HO := Lib.hid hown; clear hown
    have HNS := Lib.hid hns; clear hns
    have HVAL := Lib.hid hval; clear hval
    have HBEL := Lib.hid hbel; clear hbel
    have HSZ := Lib.hid hsz; clear hsz
    have HC := Lib.hid hc; clear hc H
    by_cases h1 : k < n
    · by_cases h2 : k < m
      · have xa : ((da k : Nat) : Int) ≤ 65535 := by have := Ha.out k (by omega); omega
        have xa0 : (0 : Int) ≤ (da k : Nat) := by omega
        have ea : wr.cell? ⟨ba, k, none⟩ = some (.int .u64 (da k : Nat)) := (HBEL.out.cell (p := ⟨ba, k, none⟩) HA.out.1).trans (HA.out.2 k (by omega))
        have hka : (k : Int) < (n : Int) := by omega
        have xb : ((db k : Nat) : Int) ≤ 65535 := by have := Hb.out k (by omega); omega
        have xb0 : (0 : Int) ≤ (db k : Nat) := by omega
        have eb : wr.cell? ⟨bb, k, none⟩ = some (.int .u64 (db k : Nat)) := (HBEL.out.cell (p := ⟨bb, k, none⟩) HB.out.1).trans (HB.out.2 k (by omega))
        have hkb : (k : Int) < (m : Int) := by omega
        obtain ⟨x, hx⟩ : ∃ x : Nat, c + da k + db k = x := ⟨_, rfl⟩
        have hxi : (c : Int) + (da k : Nat) + (db k : Nat) = (x : Int) := by omega
        have hxb : x < 200000 := by have := HC.out; omega
        have hand : bits .and .u64 (x : Int) 65535 = ((x % 65536 : Nat) : Int) := and_low16 x (by omega)
        have hxl : (x : Int) < 200000 := by omega
        have hx0 : (0 : Int) ≤ x := by omega
        have HAND := Lib.hid hand; clear hand
        have HX := Lib.hid hx; clear hx
        go_wp2_with (at_builtin; refine wpList_append_own _ rfl (.tmp 43) (.tmp 46) 51 rfl w.heap.size 22 i0 (.int .u64 0) 1 8 Tryd.underlying51 hi hz0 hz1 hz2 rfl (by decide) _ _ _ rfl (HO.out.alloc _) ⟨wr.heap.size, 0, none⟩ 1 1 [.int .u64 (bits .and .u64 (x : Int) 65535)] rfl rfl ?d111 ?d112 ?d113 ?d114 ?d115 ?_)
        try (case d111 => exact cell_one_new _ _ _)
        try (case d112 => first | rfl | (intro u hu; simp at hu; subst hu; rfl))
        try (case d113 => unfold maxLen; omega)
        try (case d114 => omega)
        try (case d115 => have := HSZ.out; first | omega | (simp; omega))
        intro v' w1 hown' hgrow _
        rw [HAND.out] at hown'
        have ea' : pad da n k = da k := by simp only [pad]; rw [if_pos (by omega)]
        have eb' : pad db m k = db k := by simp only [pad]; rw [if_pos (by omega)]
        have HN := Lib.hid (sum_next (x := x) (da := da) (db := db) (n := n) (m := m) HC.out HO.out HNS.out HVAL.out HBEL.out HSZ.out (by rw [ea', eb']; have := HX.out; omega) (by rw [ea']; omega) (by rw [eb']; omega) hown' hgrow)
        clear hown' hgrow ea' eb'
        go_wp2
        go_roundw
        case rel => exact ⟨k + 1, x / 65536, by omega, by go_num, by go_num, HN⟩
        case measure => simp [intOf]; omega
      · have xa : ((da k : Nat) : Int) ≤ 65535 := by have := Ha.out k (by omega); omega
        have xa0 : (0 : Int) ≤ (da k : Nat) := by omega
        have ea : wr.cell? ⟨ba, k, none⟩ = some (.int .u64 (da k : Nat)) := (HBEL.out.cell (p := ⟨ba, k, none⟩) HA.out.1).trans (HA.out.2 k (by omega))
        have hka : (k : Int) < (n : Int) := by omega
        have hkb : ¬ (k : Int) < (m : Int) := by omega
        obtain ⟨x, hx⟩ : ∃ x : Nat, c + da k = x := ⟨_, rfl⟩
        have hxi : (c : Int) + (da k : Nat) = (x : Int) := by omega
        have hxb : x < 200000 := by have := HC.out; omega
        have hand : bits .and .u64 (x : Int) 65535 = ((x % 65536 : Nat) : Int) := and_low16 x (by omega)
        have hxl : (x : Int) < 200000 := by omega
        have hx0 : (0 : Int) ≤ x := by omega
        have HAND := Lib.hid hand; clear hand
        have HX := Lib.hid hx; clear hx
        go_wp2_with (at_builtin; refine wpList_append_own _ rfl (.tmp 43) (.tmp 46) 51 rfl w.heap.size 22 i0 (.int .u64 0) 1 8 Tryd.underlying51 hi hz0 hz1 hz2 rfl (by decide) _ _ _ rfl (HO.out.alloc _) ⟨wr.heap.size, 0, none⟩ 1 1 [.int .u64 (bits .and .u64 (x : Int) 65535)] rfl rfl ?d101 ?d102 ?d103 ?d104 ?d105 ?_)
        try (case d101 => exact cell_one_new _ _ _)
        try (case d102 => first | rfl | (intro u hu; simp at hu; subst hu; rfl))
        try (case d103 => unfold maxLen; omega)
        try (case d104 => omega)
        try (case d105 => have := HSZ.out; first | omega | (simp; omega))
        intro v' w1 hown' hgrow _
        rw [HAND.out] at hown'
        have ea' : pad da n k = da k := by simp only [pad]; rw [if_pos (by omega)]
        have eb' : pad db m k = 0 := by simp only [pad]; rw [if_neg (by omega)]
        have HN := Lib.hid (sum_next (x := x) (da := da) (db := db) (n := n) (m := m) HC.out HO.out HNS.out HVAL.out HBEL.out HSZ.out (by rw [ea', eb']; have := HX.out; omega) (by rw [ea']; omega) (by rw [eb']; omega) hown' hgrow)
        clear hown' hgrow ea' eb'
        go_wp2
        go_roundw
        case rel => exact ⟨k + 1, x / 65536, by omega, by go_num, by go_num, HN⟩
        case measure => simp [intOf]; omega
    · by_cases h2 : k < m
      · have hka : ¬ (k : Int) < (n : Int) := by omega
        have xb : ((db k : Nat) : Int) ≤ 65535 := by have := Hb.out k (by omega); omega
        have xb0 : (0 : Int) ≤ (db k : Nat) := by omega
        have eb : wr.cell? ⟨bb, k, none⟩ = some (.int .u64 (db k : Nat)) := (HBEL.out.cell (p := ⟨bb, k, none⟩) HB.out.1).trans (HB.out.2 k (by omega))
        have hkb : (k : Int) < (m : Int) := by omega
        obtain ⟨x, hx⟩ : ∃ x : Nat, c + db k = x := ⟨_, rfl⟩
        have hxi : (c : Int) + (db k : Nat) = (x : Int) := by omega
        have hxb : x < 200000 := by have := HC.out; omega
        have hand : bits .and .u64 (x : Int) 65535 = ((x % 65536 : Nat) : Int) := and_low16 x (by omega)
        have hxl : (x : Int) < 200000 := by omega
        have hx0 : (0 : Int) ≤ x := by omega
        have HAND := Lib.hid hand; clear hand
        have HX := Lib.hid hx; clear hx
        go_wp2_with (at_builtin; refine wpList_append_own _ rfl (.tmp 43) (.tmp 46) 51 rfl w.heap.size 22 i0 (.int .u64 0) 1 8 Tryd.underlying51 hi hz0 hz1 hz2 rfl (by decide) _ _ _ rfl (HO.out.alloc _) ⟨wr.heap.size, 0, none⟩ 1 1 [.int .u64 (bits .and .u64 (x : Int) 65535)] rfl rfl ?d011 ?d012 ?d013 ?d014 ?d015 ?_)
        try (case d011 => exact cell_one_new _ _ _)
        try (case d012 => first | rfl | (intro u hu; simp at hu; subst hu; rfl))
        try (case d013 => unfold maxLen; omega)
        try (case d014 => omega)
        try (case d015 => have := HSZ.out; first | omega | (simp; omega))
        intro v' w1 hown' hgrow _
        rw [HAND.out] at hown'
        have ea' : pad da n k = 0 := by simp only [pad]; rw [if_neg (by omega)]
        have eb' : pad db m k = db k := by simp only [pad]; rw [if_pos (by omega)]
        have HN := Lib.hid (sum_next (x := x) (da := da) (db := db) (n := n) (m := m) HC.out HO.out HNS.out HVAL.out HBEL.out HSZ.out (by rw [ea', eb']; have := HX.out; omega) (by rw [ea']; omega) (by rw [eb']; omega) hown' hgrow)
        clear hown' hgrow ea' eb'
        go_wp2
        go_roundw
        case rel => exact ⟨k + 1, x / 65536, by omega, by go_num, by go_num, HN⟩
        case measure => simp [intOf]; omega
      · have hka : ¬ (k : Int) < (n : Int) := by omega
        have hkb : ¬ (k : Int) < (m : Int) := by omega
        go_wp2_with (at_builtin; refine wpList_append_own _ rfl (.tmp 50) (.tmp 52) 51 rfl w.heap.size 22 i0 (.int .u64 0) 1 8 Tryd.underlying51 hi hz0 hz1 hz2 rfl (by decide) _ _ _ rfl (HO.out.alloc _) ⟨wr.heap.size, 0, none⟩ 1 1 [.int .u64 (c : Int)] rfl rfl ?e1 ?e2 ?e3 ?e4 ?e5 ?_)
        try (case e1 => exact cell_one_new _ _ _)
        try (case e2 => first | rfl | (intro u hu; simp at hu; subst hu; rfl))
        try (case e3 => unfold maxLen; omega)
        try (case e4 => omega)
        try (case e5 => have := HSZ.out; first | omega | (simp; omega))
        intro v' w1 hown' hgrow _
        obtain rfl : k = max n m := by omega
        obtain ⟨ho, hb'⟩ := push_rel HO.out HBEL.out (by have := HSZ.out; omega) hown' hgrow
        have R := made_of (Nat.le_refl _) ho (by omega) (upd_lt HNS.out (by have := HC.out; omega)) hb'
        rw [vd_upd, HVAL.out, vd_pad _ _ _ (by omega), vd_pad _ _ _ (by omega)] at R
        have HR := Lib.hid R
        clear hown' hgrow ho hb' R
        go_wp2
        go_ret
        exact HR.out
end Go.Proofs.YthfadinocadhaaaDoor
namespace Go.Proofs.YthfadinocadhaaaDoor
open Go.RowKit

/-- Part p of the word of the first k digits. -/
def wpt (d : Nat → Nat) (p : Nat) : Nat → Nat
  | 0 => 0
  | k + 1 => wpt d p k + if k / 4 = p then d k * 2 ^ (16 * (k % 4)) else 0
/-- How many of the first k digits lie in part p. -/
def mm (p k : Nat) : Nat := min 4 (k - 4 * p)
theorem wpt_lt {d : Nat → Nat} (p : Nat) : ∀ k, (∀ j, j < k → d j < 65536) → wpt d p k < 2 ^ (16 * mm p k)
  | 0, _ => by simp [wpt, Nat.two_pow_pos]
  | k + 1, h => by
    have ih := wpt_lt p k (fun j hj => h j (by omega))
    have hd := h k (by omega)
    unfold wpt
    by_cases e : k / 4 = p
    · rw [if_pos e]
      have m0 : mm p k = k % 4 := by unfold mm; omega
      have m1 : mm p (k + 1) = k % 4 + 1 := by unfold mm; omega
      rw [m0] at ih
      rw [m1, show 16 * (k % 4 + 1) = 16 * (k % 4) + 16 by omega, Nat.pow_add]
      have h2 : d k * 2 ^ (16 * (k % 4)) ≤ 65535 * 2 ^ (16 * (k % 4)) := Nat.mul_le_mul_right _ (by omega)
      have e16 : (2 : Nat) ^ 16 = 65536 := by rfl
      rw [e16]
      omega
    · rw [if_neg e, Nat.add_zero]
      exact Nat.lt_of_lt_of_le ih (Nat.pow_le_pow_right (by omega) (by unfold mm; omega))
theorem wpt_64 {d : Nat → Nat} (p k : Nat) (h : ∀ j, j < k → d j < 65536) : wpt d p k < 18446744073709551616 := by
  refine Nat.lt_of_lt_of_le (wpt_lt p k h) ?_
  have e : 18446744073709551616 = 2 ^ 64 := by rfl
  rw [e]
  exact Nat.pow_le_pow_right (by omega) (by unfold mm; omega)
theorem wlow {d : Nat → Nat} {k p s : Nat} (hp : k / 4 = p) (hs : 16 * (k % 4) = s) (h : ∀ j, j < k → d j < 65536) : wpt d p k < 2 ^ s := by
  have := wpt_lt (d := d) p k h
  rwa [show mm p k = k % 4 by unfold mm; omega, hs] at this
theorem wpt_n4 {d : Nat → Nat} : ∀ k, k ≤ 16 → n4 (wpt d 0 k) (wpt d 1 k) (wpt d 2 k) (wpt d 3 k) = vd d k
  | 0, _ => rfl
  | k + 1, h => by
    have ih := wpt_n4 (d := d) k (by omega)
    have e : 65536 ^ k * d k = 2 ^ (64 * (k / 4)) * (d k * 2 ^ (16 * (k % 4))) := by
      rw [show (65536 : Nat) = 2 ^ 16 by rfl, ← Nat.pow_mul, show 16 * k = 64 * (k / 4) + 16 * (k % 4) by omega, Nat.pow_add, Nat.mul_assoc, Nat.mul_comm (2 ^ (16 * (k % 4)))]
    simp only [wpt, vd]
    rw [e, ← ih]
    generalize d k * 2 ^ (16 * (k % 4)) = y
    have c : k / 4 = 0 ∨ k / 4 = 1 ∨ k / 4 = 2 ∨ k / 4 = 3 := by omega
    rcases c with c | c | c | c
    · rw [c, show (2 : Nat) ^ (64 * 0) = 1 by rfl]; simp only [n4]; simp; omega
    · rw [c, show (2 : Nat) ^ (64 * 1) = 18446744073709551616 by rfl]; simp only [n4]; simp; omega
    · rw [c, show (2 : Nat) ^ (64 * 2) = 340282366920938463463374607431768211456 by rfl]; simp only [n4]; simp; omega
    · rw [c, show (2 : Nat) ^ (64 * 3) = 6277101735386680763835789423207666416102355444464034512896 by rfl]; simp only [n4]; simp; omega
theorem wpt_all {d : Nat → Nat} {K : Nat} (hK : K ≤ 16) (h : ∀ j, j < K → d j < 65536) : wpt d 0 K < 18446744073709551616 ∧ wpt d 1 K < 18446744073709551616 ∧ wpt d 2 K < 18446744073709551616 ∧ wpt d 3 K < 18446744073709551616 ∧ n4 (wpt d 0 K) (wpt d 1 K) (wpt d 2 K) (wpt d 3 K) = vd d K :=
  ⟨wpt_64 _ _ h, wpt_64 _ _ h, wpt_64 _ _ h, wpt_64 _ _ h, wpt_n4 K hK⟩

theorem or_up (x y s : Nat) (hx : x < 2 ^ s) (hy : y < 65536) (hs : s ≤ 48) : bits .or .u64 (x : Int) (IntKind.u64.wrap ((y : Int) * 2 ^ s)) = ((x + y * 2 ^ s : Nat) : Int) := by
  have h1 : 2 ^ s ≤ 2 ^ 48 := Nat.pow_le_pow_right (by omega) hs
  have h2 : y * 2 ^ s ≤ 65535 * 2 ^ 48 := Nat.mul_le_mul (by omega) h1
  have h3 : y * 2 ^ s < 18446744073709551616 := by omega
  have e : IntKind.u64.wrap ((y : Int) * 2 ^ s) = ((y * 2 ^ s : Nat) : Int) := by
    rw [IntKind.wrap_u64]
    have e0 : (y : Int) * 2 ^ s = ((y * 2 ^ s : Nat) : Int) := by simp
    rw [e0]
    omega
  rw [e, bits_or_u64_nat x (y * 2 ^ s) (by omega) h3]
  have := Nat.two_pow_add_eq_or_of_lt hx y
  rw [Nat.or_comm, Nat.mul_comm y, ← this, Nat.add_comm]

def rw4 (d : Nat → Nat) (k : Nat) : Array Value := #[.int .u64 (wpt d 0 k : Nat), .int .u64 (wpt d 1 k : Nat), .int .u64 (wpt d 2 k : Nat), .int .u64 (wpt d 3 k : Nat)]
theorem rw4_at (d : Nat → Nat) (k p : Nat) (h : p < 4) : (rw4 d k)[p]? = some (.int .u64 (wpt d p k : Nat)) := by
  have c : p = 0 ∨ p = 1 ∨ p = 2 ∨ p = 3 := by omega
  rcases c with rfl | rfl | rfl | rfl <;> rfl
theorem rw4_one (d : Nat → Nat) (k : Nat) : (rw4 d k).all (·.oneCell') = true := by
  simp [rw4, Value.oneCell']
theorem rw4_set (d : Nat → Nat) (k p s : Nat) (hk : k < 16) (hp : k / 4 = p) (hs : 16 * (k % 4) = s) : (rw4 d k).setIfInBounds p (.int .u64 ((wpt d p k + d k * 2 ^ s : Nat) : Int)) = rw4 d (k + 1) := by
  have c : p = 0 ∨ p = 1 ∨ p = 2 ∨ p = 3 := by omega
  subst hs
  rcases c with rfl | rfl | rfl | rfl <;> simp [rw4, wpt, hp]
theorem rw4_wv (d : Nat → Nat) (K : Nat) (hK : K ≤ 16) (h : ∀ j, j < K → d j < 65536) : Value.agg (rw4 d K) = wv (vd d K) := by
  obtain ⟨h0, h1, h2, h3, e⟩ := wpt_all hK h
  rw [← e, wv_n4 h0 h1 h2 h3]
  rfl
theorem heap2 (w : World) (A B : Obj) : ((w.alloc A).alloc B).heap[w.heap.size]? = some A ∧ ((w.alloc A).alloc B).heap[w.heap.size + 1]? = some B := ⟨heap_alloc2_old _ _ _, heap_alloc2_new _ _ _⟩

set_option maxRecDepth 100000 in
set_option maxHeartbeats 2000000 in
theorem word_walk (b cp n : Nat) (d : Nat → Nat) (hn : (n : Int) ≤ 1000000) (hd : ∀ j, j < n → d j < 65536) (w : World) (hD : Dg w b n d) :
    Calls Tryd.prog 61 #[.slice (some ⟨b, 0, none⟩) n cp] w fun e w' => e = .returned (.agg (rw4 d (min 16 n))) ∧ Below w.heap.size w w' := by
  have HD := Lib.hid hd; clear hd
  have HDG := Lib.hid hD; clear hD
  go_enter Tryd.func61, Tryd.ntmps61
  go_wp2
  go_loopw [4] (fun i wr => ∃ k : Nat, k ≤ min 16 n ∧ i = .int .i64 k ∧ Hid (wr.heap[w.heap.size]? = some (.cells (rw4 d 0) 24 (0, 0)) ∧ wr.heap[w.heap.size + 1]? = some (.cells (rw4 d k) 24 (0, 0)) ∧ Below w.heap.size w wr)) (fun i _ => 16 - (intOf i).toNat)
  case atStart => exact ⟨0, by omega, rfl, Lib.hid ⟨(heap2 _ _ _).1, (heap2 _ _ _).2, by go_grown⟩⟩
  case round =>
    obtain ⟨k, hk, rfl, H⟩ := hrel
    have hk0 : (0 : Int) ≤ k := by omega
    have hk1 : (k : Int) ≤ 16 := by omega
    by_cases hlt : k < min 16 n
    · have h16 : (k : Int) < 16 := by omega
      have hkn : (k : Int) < (n : Int) := by omega
      obtain ⟨p, hp⟩ : ∃ p : Nat, (k : Int) / 4 = (p : Int) := ⟨k / 4, by omega⟩
      obtain ⟨s, hs⟩ : ∃ s : Nat, 16 * ((k : Int) % 4) = (s : Int) := ⟨16 * (k % 4), by omega⟩
      have hp0 : (0 : Int) ≤ p := by omega
      have hp1 : (p : Int) < 4 := by omega
      have hs0 : (0 : Int) ≤ s := by omega
      have hs1 : (s : Int) < 64 := by omega
      have cd : wr.cell? ⟨b, k, none⟩ = some (.int .u64 (d k : Nat)) := (H.out.2.2.cell (p := ⟨b, k, none⟩) HDG.out.1).trans (HDG.out.2 k (by omega))
      have ca : wr.cell? ⟨w.heap.size + 1, p, none⟩ = some (.int .u64 (wpt d p k : Nat)) := (cell_of_row wr _ p _ _ _ H.out.2.1).trans (rw4_at d k p (by omega))
      have cf : wr.frozen? ⟨w.heap.size + 1, p, none⟩ = false := frozen_of_row wr _ p _ _ H.out.2.1
      have hv := or_up (wpt d p k) (d k) s (wlow (by omega) (by omega) (fun j hj => HD.out j (by omega))) (HD.out k (by omega)) (by omega)
      have HV := Lib.hid hv; clear hv
      go_wp2
      refine region_quiet_tail 17 (fun w' => ∃ n, w' = wr.drewN n) (by kernel_rfl) (by kernel_rfl) ⟨1, rfl⟩ ?_
      simp only [List.take_succ_cons, List.take_zero, List.drop_succ_cons, List.drop_zero]
      repeat (go_big_quiet_step (fail))
      with_reducible refine wpQuiet_nil ?_
      rintro _ ⟨nq, rfl⟩
      go_wp2
      go_roundw
      case rel =>
        refine ⟨k + 1, by omega, by go_num, Lib.hid ⟨(heap_setCell_other (wr.drewN nq) _ _ _ (by simp)).trans H.out.1, ?_, (below_drewN H.out.2.2 nq).setCell (by simp) _⟩⟩
        rw [HV.out, heap_setCell_same (wr.drewN nq) _ _ _ _ _ H.out.2.1, rw4_set d k p s (by omega) (by omega) (by omega)]
      case measure => simp [intOf]; omega
    · obtain rfl : k = min 16 n := by omega
      have hi : (Tryd.prog.info? 24).map (·.size) = some 4 := by kernel_rfl
      have HI := Lib.hid hi; clear hi
      generalize hK : min 16 n = K at *
      by_cases h16 : K = 16
      · have hx : decide ((K : Int) < 16) = false := by rw [decide_eq_false_iff_not]; omega
        have HK := Lib.hid hK; clear hK h16
        go_wp2_with (first | (refine wpList_load_row rfl 24 _ rfl (w.heap.size + 1) rfl 24 _ (0, 0) _ H.out.2.1 Tryd.underlying24 rfl HI.out ?_) | (refine wpList_store_row rfl 24 _ _ rfl w.heap.size (rw4 d K) rfl rfl 24 (rw4 d 0) H.out.1 HI.out rfl (rw4_one _ _) ?_))
        refine bodyPost_ret (v := .agg (rw4 d K)) (results_cell_row (p := 2) rfl _ _ w.heap.size 24 _ (0, 0) _ rfl (setRow_heap _ _ _ _ _ _ H.out.1) Tryd.underlying24 rfl HI.out) rfl ⟨by rw [HK.out], below_setRow H.out.2.2 (Nat.le_refl _) _⟩
      · have hx : decide ((K : Int) < 16) = true := by rw [decide_eq_true_iff]; omega
        have hy : decide (K < n) = false := by rw [decide_eq_false_iff_not]; omega
        have HK := Lib.hid hK; clear hK h16
        go_wp2_with (first | (refine wpList_load_row rfl 24 _ rfl (w.heap.size + 1) rfl 24 _ (0, 0) _ H.out.2.1 Tryd.underlying24 rfl HI.out ?_) | (refine wpList_store_row rfl 24 _ _ rfl w.heap.size (rw4 d K) rfl rfl 24 (rw4 d 0) H.out.1 HI.out rfl (rw4_one _ _) ?_))
        refine bodyPost_ret (v := .agg (rw4 d K)) (results_cell_row (p := 2) rfl _ _ w.heap.size 24 _ (0, 0) _ rfl (setRow_heap _ _ _ _ _ _ H.out.1) Tryd.underlying24 rfl HI.out) rfl ⟨by rw [HK.out], below_setRow H.out.2.2 (Nat.le_refl _) _⟩

theorem vd_low (d : Nat → Nat) (n : Nat) : ∀ m, n ≤ m → vd d m % 65536 ^ n = vd d n % 65536 ^ n := by
  intro m hm
  induction m with
  | zero => obtain rfl : n = 0 := by omega
            rfl
  | succ m ih =>
    by_cases e : n = m + 1
    · rw [e]
    · simp only [vd]
      rw [← ih (by omega)]
      have : 65536 ^ m * d m = 65536 ^ n * (65536 ^ (m - n) * d m) := by rw [← Nat.mul_assoc, ← Nat.pow_add, show n + (m - n) = m by omega]
      rw [this, Nat.add_mul_mod_self_left]

-- WHAT Word COMES TO.
theorem word_any (b cp n : Nat) (d : Nat → Nat) (hn : (n : Int) ≤ 1000000) (hd : ∀ j, j < n → d j < 65536) (w : World) (hD : Dg w b n d) :
    Calls Tryd.prog 61 #[.slice (some ⟨b, 0, none⟩) n cp] w fun e w' => e = .returned (wv (vd d n)) ∧ Below w.heap.size w w' := by
  have h := word_walk b cp n d hn hd w hD
  rw [rw4_wv d (min 16 n) (by omega) (fun j hj => hd j (by omega))] at h
  by_cases h16 : n ≤ 16
  · rw [Nat.min_eq_right h16] at h
    exact h
  · rw [Nat.min_eq_left (by omega)] at h
    have e : wv (vd d 16) = wv (vd d n) := wv_congr (vd_low d 16 n (by omega)).symm
    rw [e] at h
    exact h
end Go.Proofs.YthfadinocadhaaaDoor
namespace Go.Proofs.YthfadinocadhaaaDoor
open Go.RowKit

/-- A block of L digits that may be written. -/
def OutAt (wr : World) (B L : Nat) (o : Nat → Nat) : Prop := B < wr.heap.size ∧ ∀ j, j < L → wr.cell? ⟨B, j, none⟩ = some (.int .u64 (o j : Nat)) ∧ wr.frozen? ⟨B, j, none⟩ = false
theorem OutAt.drewN {wr : World} {B L : Nat} {o : Nat → Nat} (h : OutAt wr B L o) (n : Nat) : OutAt (wr.drewN n) B L o := h
theorem OutAt.set {wr : World} {B L : Nat} {o : Nat → Nat} (h : OutAt wr B L o) (p y : Nat) (hp : p < L) : OutAt (wr.setCell ⟨B, p, none⟩ (.int .u64 (y : Nat))) B L (upd o p y) := by
  refine ⟨by simpa using h.1, fun j hj => ⟨?_, ?_⟩⟩
  · by_cases e : j = p
    · subst e
      rw [World.cell?_setCell_same _ _ _ (h.2 j hj).1]
      simp [upd]
    · rw [World.cell?_setCell_other _ _ _ _ (by intro e2; apply e; injection e2 with _ e3; exact e3.symm), (h.2 j hj).1]
      simp [upd, e]
  · rw [World.frozen?_setCell]; exact (h.2 j hj).2

/-- One digit in the place of another. -/
theorem vd_set (o : Nat → Nat) (p y : Nat) : ∀ L, p < L → vd (upd o p y) L + 65536 ^ p * o p = vd o L + 65536 ^ p * y
  | 0, h => by omega
  | L + 1, h => by
    simp only [vd]
    by_cases e : p = L
    · subst e
      rw [vd_congr (d := upd o p y) (e := o) (fun j hj => by simp [upd, show ¬ j = p by omega])]
      simp only [upd, if_true]
      omega
    · have := vd_set o p y L (by omega)
      rw [show upd o p y L = o L by simp [upd, show ¬ L = p by omega]]
      omega

/-- What the inner loop of Product keeps: the number of all digits, and what is carried. -/
def PRel (n m i j c : Nat) (da db o0 o : Nat → Nat) : Prop :=
  c < 65536 ∧ (∀ t, t < n + m → o t < 65536) ∧ (∀ t, i + m ≤ t → t < n + m → o t = 0) ∧ vd o (n + m) + 65536 ^ (i + j) * c = vd o0 (n + m) + 65536 ^ i * da i * vd db j
theorem prel_next {n m i j c x : Nat} {da db o0 o : Nat → Nat} (h : PRel n m i j c da db o0 o) (hi : i < n) (hj : j < m) (hx : x = o (i + j) + da i * db j + c) (ha : da i < 65536) (hb : db j < 65536) :
    PRel n m i (j + 1) (x / 65536) da db o0 (upd o (i + j) (x % 65536)) := by
  obtain ⟨hc, ho, hz, hv⟩ := h
  have hop := ho (i + j) (by omega)
  have hab : da i * db j ≤ 65535 * 65535 := Nat.mul_le_mul (by omega) (by omega)
  refine ⟨by omega, fun t ht => ?_, fun t h1 h2 => ?_, ?_⟩
  · unfold upd; split
    · omega
    · exact ho t ht
  · unfold upd; rw [if_neg (by omega)]; exact hz t h1 h2
  · have h1 := vd_set o (i + j) (x % 65536) (n + m) (by omega)
    have e : x = x % 65536 + 65536 * (x / 65536) := by omega
    have e1 : 65536 ^ (i + j) * x = 65536 ^ (i + j) * (x % 65536) + 65536 ^ (i + (j + 1)) * (x / 65536) := by
      rw [show i + (j + 1) = (i + j) + 1 by omega, Nat.pow_succ, Nat.mul_assoc, ← Nat.mul_add, ← e]
    have e2 : 65536 ^ (i + j) * x = 65536 ^ (i + j) * o (i + j) + 65536 ^ (i + j) * (da i * db j) + 65536 ^ (i + j) * c := by rw [hx, Nat.mul_add, Nat.mul_add]
    have e3 : 65536 ^ i * da i * vd db (j + 1) = 65536 ^ i * da i * vd db j + 65536 ^ (i + j) * (da i * db j) := by
      simp only [vd]
      rw [Nat.mul_add, Nat.pow_add]
      congr 1
      simp only [Nat.mul_assoc, Nat.mul_left_comm]
    rw [e3]
    omega
theorem prel_end {n m i c : Nat} {da db o0 o : Nat → Nat} (h : PRel n m i m c da db o0 o) (hi : i < n) (hv0 : vd o0 (n + m) = vd da i * vd db m) :
    (∀ t, t < n + m → upd o (i + m) c t < 65536) ∧ (∀ t, i + 1 + m ≤ t → t < n + m → upd o (i + m) c t = 0) ∧ vd (upd o (i + m) c) (n + m) = vd da (i + 1) * vd db m := by
  obtain ⟨hc, ho, hz, hv⟩ := h
  refine ⟨fun t ht => ?_, fun t h1 h2 => ?_, ?_⟩
  · unfold upd; split
    · exact hc
    · exact ho t ht
  · unfold upd; rw [if_neg (by omega)]; exact hz t (by omega) h2
  · have h1 := vd_set o (i + m) c (n + m) (by omega)
    rw [hz (i + m) (Nat.le_refl _) (by omega), Nat.mul_zero, Nat.add_zero] at h1
    rw [h1, hv, hv0]
    simp only [vd]
    rw [Nat.add_mul]

theorem madeCells_at (k j : Nat) (h : j < k) : (madeCells (Value.int .u64 0).cells (k * 1)).toList[j]? = some (.int .u64 ((0 : Nat) : Int)) := by
  simp [madeCells, Value.cells, h, Nat.mod_one]
theorem vd_nought (L : Nat) : vd (fun _ => 0) L = 0 := by
  induction L with
  | zero => rfl
  | succ L ih => simp [vd, ih]

set_option maxRecDepth 100000 in
set_option maxHeartbeats 4000000 in
theorem product_digits (ba ca bb cb n m : Nat) (da db : Nat → Nat) (hn : (n : Int) ≤ 1000000) (hm : (m : Int) ≤ 1000000) (ha : ∀ j, j < n → da j < 65536) (hb : ∀ j, j < m → db j < 65536) (w : World) (hA : Dg w ba n da) (hB : Dg w bb m db) :
    Calls Tryd.prog 68 #[.slice (some ⟨ba, 0, none⟩) n ca, .slice (some ⟨bb, 0, none⟩) m cb] w (MkDg (n + m) (vd da n * vd db m) w) := by
  have Ha := Lib.hid ha; clear ha
  have Hb := Lib.hid hb; clear hb
  have HA := Lib.hid hA; clear hA
  have HB := Lib.hid hB; clear hB
  have hn0 : (0 : Int) ≤ n := by omega
  have hm0 : (0 : Int) ≤ m := by omega
  obtain ⟨i0, hi, hz0, hz1, hz2⟩ := info_parts info22
  obtain ⟨L, hL⟩ : ∃ L : Nat, (n : Int) + (m : Int) = (L : Int) := ⟨n + m, by omega⟩
  have HL : Hid (n + m = L) := Lib.hid (by omega)
  have hLb : (L : Int) ≤ 2000000 := by omega
  go_enter Tryd.func68, Tryd.ntmps68
  go_wp2_with (at_make; refine wpList_make_full _ rfl _ _ 51 rfl w.heap.size 22 i0 (.int .u64 0) 1 Tryd.underlying51 hi hz0 hz1 .i64 .i64 _ _ L rfl rfl rfl rfl (by rw [hz2]; omega) (by unfold maxLen; omega) (Nat.le_refl _) ?_; intro w0 hown0 hgrow0)
  have hout : OutAt w0 w.heap.size L (fun _ => 0) := ⟨(hown0.lt _ rfl).2, fun j hj => ⟨(hown0.cellAt j (by omega)).trans (madeCells_at L j hj), hown0.frozenAt j⟩⟩
  have hbel : Below w.heap.size w w0 := (Below.refl _ _).grown hgrow0 (Nat.le_refl _) (fun k hk => by cases hk)
  have HW := Lib.hid (And.intro hout hbel)
  clear hout hbel hown0 hgrow0 hL
  go_wp2
  go_loopw [6] (fun iv wr => ∃ i : Nat, i ≤ n ∧ iv = .int .i64 i ∧ Hid (∃ o : Nat → Nat, OutAt wr w.heap.size L o ∧ Below w.heap.size w wr ∧ (∀ t, t < n + m → o t < 65536) ∧ (∀ t, i + m ≤ t → t < n + m → o t = 0) ∧ vd o (n + m) = vd da i * vd db m)) (fun iv _ => n - (intOf iv).toNat)
  case atStart => exact ⟨0, Nat.zero_le _, rfl, Lib.hid ⟨fun _ => 0, HW.out.1, HW.out.2, fun _ _ => (by show (0 : Nat) < 65536; omega), fun _ _ _ => rfl, by rw [vd_nought]; simp [vd]⟩⟩
  case round =>
    obtain ⟨i, hin, rfl, H⟩ := hrel
    have hi0 : (0 : Int) ≤ i := by omega
    have hi1 : (i : Int) ≤ 1000000 := by omega
    by_cases hlt : i < n
    · obtain ⟨o0, hO0, hB0, hd0, hz0', hv0⟩ := H.out
      have HV0 := Lib.hid hv0; clear hv0
      have HO0 := Lib.hid (And.intro hO0 (And.intro hB0 (And.intro hd0 hz0'))); clear hO0 hB0 hd0 hz0' H
      go_wp2
      go_loopw [7, 8] (fun cv jv wr2 => ∃ j c : Nat, j ≤ m ∧ jv = .int .i64 j ∧ cv = .int .u64 c ∧ Hid (∃ o : Nat → Nat, OutAt wr2 w.heap.size L o ∧ Below w.heap.size w wr2 ∧ PRel n m i j c da db o0 o)) (fun _ jv _ => m - (intOf jv).toNat)
      case atStart => exact ⟨0, 0, Nat.zero_le _, rfl, rfl, Lib.hid ⟨o0, HO0.out.1, HO0.out.2.1, by omega, HO0.out.2.2.1, HO0.out.2.2.2, by simp [vd]⟩⟩
      case round =>
        obtain ⟨j, c, hjm, rfl, rfl, H⟩ := hrel
        obtain ⟨o, hO, hBw, hP⟩ := H.out
        have hj0 : (0 : Int) ≤ j := by omega
        have hj1 : (j : Int) ≤ 1000000 := by omega
        have hc0 : (0 : Int) ≤ c := by omega
        have hc1 : (c : Int) < 65536 := by have := hP.1; omega
        by_cases hjl : j < m
        · obtain ⟨p, hp⟩ : ∃ p : Nat, (i : Int) + (j : Int) = (p : Int) := ⟨i + j, by omega⟩
          have HPI : Hid (i + j = p) := Lib.hid (by omega)
          have hp0 : (0 : Int) ≤ p := by omega
          have hpL : (p : Int) < (L : Int) := by have := HL.out; omega
          have hil : (i : Int) < (n : Int) := by omega
          have hjl' : (j : Int) < (m : Int) := by omega
          have co : wr.cell? ⟨w.heap.size, p, none⟩ = some (.int .u64 (o p : Nat)) := (hO.2 p (by omega)).1
          have fo : wr.frozen? ⟨w.heap.size, p, none⟩ = false := (hO.2 p (by omega)).2
          have cA : wr.cell? ⟨ba, i, none⟩ = some (.int .u64 (da i : Nat)) := (hBw.cell (p := ⟨ba, i, none⟩) HA.out.1).trans (HA.out.2 i hlt)
          have cB : wr.cell? ⟨bb, j, none⟩ = some (.int .u64 (db j : Nat)) := (hBw.cell (p := ⟨bb, j, none⟩) HB.out.1).trans (HB.out.2 j hjl)
          obtain ⟨q, hq⟩ : ∃ q : Nat, q = da i * db j := ⟨_, rfl⟩
          have hab : da i * db j ≤ 65535 * 65535 := Nat.mul_le_mul (by have := Ha.out i hlt; omega) (by have := Hb.out j hjl; omega)
          have hqb : q ≤ 4294836225 := by rw [hq]; exact hab
          have hqi : IntKind.u64.wrap (((da i : Nat) : Int) * ((db j : Nat) : Int)) = (q : Int) := by
            rw [IntKind.wrap_u64, hq]
            have e0 : ((da i : Nat) : Int) * ((db j : Nat) : Int) = ((da i * db j : Nat) : Int) := by simp
            rw [e0]; omega
          have hop : o p < 65536 := hP.2.1 p (by have := HL.out; omega)
          obtain ⟨x, hx⟩ : ∃ x : Nat, x = o p + q + c := ⟨_, rfl⟩
          have hxi : ((o p : Nat) : Int) + (q : Int) + (c : Int) = (x : Int) := by omega
          have hxb : x < 8589934592 := by omega
          have hand : bits .and .u64 (x : Int) 65535 = ((x % 65536 : Nat) : Int) := and_low16 x (by omega)
          have HN : Hid (PRel n m i (j + 1) (x / 65536) da db o0 (upd o p (x % 65536))) := Lib.hid (by
            have := prel_next (x := x) hP hlt hjl (by rw [HPI.out, hx, hq]) (Ha.out i hlt) (Hb.out j hjl)
            rwa [HPI.out] at this)
          have HAND := Lib.hid hand; clear hand
          have HOB := Lib.hid (And.intro hO hBw); clear hO hBw
          have HQ := Lib.hid hq; clear hq
          have HXX := Lib.hid hx; clear hx
          clear hP H hab
          have hq0 : (0 : Int) ≤ q := by omega
          have hq1 : (q : Int) ≤ 4294836225 := by omega
          have hx0 : (0 : Int) ≤ x := by omega
          have hx1 : (x : Int) < 8589934592 := by omega
          have ho0 : (0 : Int) ≤ (o p : Nat) := by omega
          have ho1 : ((o p : Nat) : Int) < 65536 := by omega
          clear hqb hxb hop
          go_wp2
          go_quiet (fail)
          go_wp2
          go_roundw
          case rel =>
            refine ⟨j + 1, x / 65536, by omega, by go_num, by go_num, Lib.hid ⟨upd o p (x % 65536), ?_, ?_, HN.out⟩⟩
            · rw [HAND.out]; exact (HOB.out.1.drewN nq).set p (x % 65536) (by omega)
            · exact (below_drewN HOB.out.2 nq).setCell (Nat.le_refl _) _
          case measure => simp [intOf]; omega
        · obtain rfl : j = m := by omega
          obtain ⟨p, hp⟩ : ∃ p : Nat, (i : Int) + (j : Int) = (p : Int) := ⟨i + j, by omega⟩
          have HPI : Hid (i + j = p) := Lib.hid (by omega)
          have hp0 : (0 : Int) ≤ p := by omega
          have hpL : (p : Int) < (L : Int) := by have := HL.out; omega
          have co : wr.cell? ⟨w.heap.size, p, none⟩ = some (.int .u64 (o p : Nat)) := (hO.2 p (by omega)).1
          have fo : wr.frozen? ⟨w.heap.size, p, none⟩ = false := (hO.2 p (by omega)).2
          have HN := Lib.hid (prel_end hP hlt HV0.out)
          have HOB := Lib.hid (And.intro hO hBw); clear hO hBw hP H
          go_wp2
          go_roundw
          case rel =>
            refine ⟨i + 1, by omega, by go_num, Lib.hid ⟨upd o p c, HOB.out.1.set p c (by omega), HOB.out.2.setCell (Nat.le_refl _) _, ?_, ?_, ?_⟩⟩
            · rw [← HPI.out]; exact HN.out.1
            · rw [← HPI.out]; exact HN.out.2.1
            · rw [← HPI.out]; exact HN.out.2.2
          case measure => simp [intOf]; omega
    · obtain rfl : i = n := by omega
      obtain ⟨o, hO, hBw, hd, -, hv⟩ := H.out
      go_wp2
      go_ret
      rw [HL.out] at hv hd ⊢
      exact ⟨w.heap.size, L, o, rfl, Nat.le_refl _, ⟨hO.1, fun j hj => (hO.2 j hj).1⟩, hd, hv, hBw⟩
end Go.Proofs.YthfadinocadhaaaDoor
namespace Go.Proofs.YthfadinocadhaaaDoor
open Go.RowKit

/-- A word's parts. -/
def pw (x : Nat) : Array Value := #[.int .u64 ((x % 18446744073709551616 : Nat) : Int), .int .u64 ((x / 18446744073709551616 % 18446744073709551616 : Nat) : Int), .int .u64 ((x / 340282366920938463463374607431768211456 % 18446744073709551616 : Nat) : Int), .int .u64 ((x / 6277101735386680763835789423207666416102355444464034512896 % 18446744073709551616 : Nat) : Int)]
theorem wv_pw (x : Nat) : wv x = .agg (pw x) := rfl
theorem pw_size (x : Nat) : (pw x).size = 4 := rfl
theorem pw_one (x : Nat) : (pw x).all (·.oneCell') = true := by simp [pw, Value.oneCell']
theorem infoWord : (Tryd.prog.info? 24).map (·.size) = some 4 := by kernel_rfl

/-- A slice of n digits with the number V, wherever it lies. -/
def DgV (n V : Nat) (v : Value) (w : World) : Prop := ∃ (b cap : Nat) (d : Nat → Nat), v = .slice (some ⟨b, 0, none⟩) n cap ∧ Dg w b n d ∧ (∀ j, j < n → d j < 65536) ∧ vd d n = V
/-- All blocks but one are as they were. -/
def Rb (S : Nat) (w w' : World) : Prop := w.heap.size ≤ w'.heap.size ∧ ∀ k, k < w.heap.size → k ≠ S → w'.heap[k]? = w.heap[k]?
theorem Rb.refl (S : Nat) (w : World) : Rb S w w := ⟨Nat.le_refl _, fun _ _ _ => rfl⟩
theorem Rb.of {S : Nat} {w w' : World} (h : Below w.heap.size w w') : Rb S w w' := ⟨h.size, fun _ hk _ => h.block _ hk⟩
theorem Rb.row {S g : Nat} {w : World} (cs : Array Value) (hg : g = S) : Rb S w (w.setRow g cs) := by
  subst hg
  exact ⟨by simp, fun k _ hk => setRow_other _ _ _ _ hk⟩
/-- .. that lies elsewhere stays. -/
def DgS (S n V : Nat) (v : Value) (w : World) : Prop := ∃ (b cap : Nat) (d : Nat → Nat), v = .slice (some ⟨b, 0, none⟩) n cap ∧ b ≠ S ∧ Dg w b n d ∧ (∀ j, j < n → d j < 65536) ∧ vd d n = V
theorem DgS.keep {S n V : Nat} {v : Value} {w w' : World} (hR : Rb S w w') (h : DgS S n V v w) : DgS S n V v w' := by
  obtain ⟨b, cap, d, rfl, hne, hD, h1, h2⟩ := h
  exact ⟨b, cap, d, rfl, hne, ⟨Nat.lt_of_lt_of_le hD.1 hR.1, fun j hj => (World.cell?_of_block (w := w) (a := ⟨b, j, none⟩) (hR.2 b hD.1 hne)).trans (hD.2 j hj)⟩, h1, h2⟩

/-- .. and if that one holds the word V, it goes on to. -/
def Rs (S V : Nat) (w w' : World) : Prop := Rb S w w' ∧ (w.heap[S]? = some (.cells (pw V) 24 (0, 0)) → w'.heap[S]? = some (.cells (pw V) 24 (0, 0)))
theorem Rs.refl (S V : Nat) (w : World) : Rs S V w w := ⟨Rb.refl _ _, id⟩
theorem Rs.of {S V : Nat} {w w' : World} (hS : S < w.heap.size) (h : Below w.heap.size w w') : Rs S V w w' := ⟨Rb.of h, fun e => (h.block _ hS).trans e⟩
theorem Rs.row {S V : Nat} {w : World} {cs : Array Value} (hg : w.heap[S]? = some (.cells cs 24 (0, 0))) : Rs S V w (w.setRow S (pw V)) := ⟨Rb.row _ rfl, fun _ => setRow_heap _ _ _ _ _ _ hg⟩
theorem mk_step {S n V : Nat} {w w' : World} {e : Ending} (hS : S < w.heap.size) (h : MkDg n V w e w') : ∃ v, e = .returned v ∧ Below w.heap.size w w' ∧ DgS S n V v w' := by
  obtain ⟨b, cap, d, rfl, hb, hD, h1, h2, hB⟩ := h
  exact ⟨_, rfl, hB, b, cap, d, rfl, by omega, hD, h1, h2⟩

/-- The worlds of a call on two words that lie in the call's first two blocks, its result in the third. -/
def CB (w : World) (x y : Nat) (wx : World) : Prop :=
  Below w.heap.size w wx ∧ wx.heap[w.heap.size]? = some (.cells (pw x) 24 (0, 0)) ∧ wx.heap[w.heap.size + 1]? = some (.cells (pw y) 24 (0, 0)) ∧ ∃ cs : Array Value, cs.size = 4 ∧ wx.heap[w.heap.size + 1 + 1]? = some (.cells cs 24 (0, 0))
theorem CB.lt {w wx : World} {x y : Nat} (h : CB w x y wx) : w.heap.size + 1 + 1 < wx.heap.size := by
  obtain ⟨-, -, -, cs, -, hc⟩ := h
  exact (Array.getElem?_eq_some_iff.1 hc).1
theorem CB.below {w wx w' : World} {x y : Nat} (h : CB w x y wx) (hb : Below wx.heap.size wx w') : CB w x y w' := by
  have hl := h.lt
  obtain ⟨h0, h1, h2, cs, hs, hc⟩ := h
  exact ⟨h0.trans (hb.mono h0.size), (hb.block _ (by omega)).trans h1, (hb.block _ (by omega)).trans h2, cs, hs, (hb.block _ hl).trans hc⟩
theorem CB.row {w wx : World} {x y : Nat} (h : CB w x y wx) (cs : Array Value) (hs : cs.size = 4) : CB w x y (wx.setRow (w.heap.size + 1 + 1) cs) := by
  obtain ⟨h0, h1, h2, cs0, hs0, hc⟩ := h
  exact ⟨below_setRow h0 (by omega) _, (setRow_other _ _ _ _ (by omega)).trans h1, (setRow_other _ _ _ _ (by omega)).trans h2, cs, hs, setRow_heap _ _ _ _ _ _ hc⟩
theorem load_pw {g x : Nat} {w : World} (hg : w.heap[g]? = some (.cells (pw x) 24 (0, 0))) : (Instr.loadAt 24 (.pointer (some ⟨g, 0, none⟩))).run Tryd.prog w = .ok (wv x) w := by
  simp only [Instr.loadAt, Instr.sureAddr, Sem.run_bind, Sem.run_pure, Result.andThen_ok, run_loadVar_row w g 24 24 (pw x) (0, 0) _ hg Tryd.underlying24 rfl infoWord]
  rfl
theorem store_pw {g x : Nat} {w : World} {cs : Array Value} (hs : cs.size = 4) (hg : w.heap[g]? = some (.cells cs 24 (0, 0))) : (Instr.storeAt 24 (.pointer (some ⟨g, 0, none⟩)) (wv x)).run Tryd.prog w = .ok () (w.setRow g (pw x)) := by
  rw [wv_pw]
  simp only [Instr.storeAt, Instr.sureAddr, Sem.run_bind, Sem.run_pure, Result.andThen_ok, run_storeVar_row w g 24 24 cs (pw x) hg infoWord hs (pw_one x)]
theorem run_store {P : Program} {a : Act} {o : Oper} {w w' : World} (t : TypeId) (p q : Operand) (u v : Value) (ho : o.op = .store t p q) (hp : a.eval p = u) (hq : a.eval q = v) (h : (Instr.storeAt t u v).run P w = .ok () w') : (execOp a.eval o).run P w = .ok .skip w' := by
  unfold execOp
  rw [ho]
  simp only [hp, hq, Sem.run_bind, h, Result.andThen_ok, Sem.run_pure]

set_option maxRecDepth 100000 in
set_option maxHeartbeats 2000000 in
-- WHAT add COMES TO.
theorem add_ref (x y : Nat) (w : World) :
    Calls Tryd.prog 14 #[.agg (pw x), .agg (pw y)] w fun e w' => e = .returned (wv (x + y)) ∧ Below w.heap.size w w' := by
  have E : wv (x % 115792089237316195423570985008687907853269984665640564039457584007913129639936 + y % 115792089237316195423570985008687907853269984665640564039457584007913129639936) = wv (x + y) := wv_congr (by omega)
  rw [← E]
  clear E
  go_enter Tryd.func14, Tryd.ntmps14
  go_wp2_with fail
  refine region_inv (CB w x y) (fun i v wx => match i with | 0 => v = wv x | 1 => DgS (w.heap.size + 1 + 1) 16 (x % 115792089237316195423570985008687907853269984665640564039457584007913129639936) v wx | 2 => v = wv y | 3 => DgS (w.heap.size + 1 + 1) 16 (y % 115792089237316195423570985008687907853269984665640564039457584007913129639936) v wx | 4 => DgS (w.heap.size + 1 + 1) 17 (x % 115792089237316195423570985008687907853269984665640564039457584007913129639936 + y % 115792089237316195423570985008687907853269984665640564039457584007913129639936) v wx | 5 => v = wv (x % 115792089237316195423570985008687907853269984665640564039457584007913129639936 + y % 115792089237316195423570985008687907853269984665640564039457584007913129639936) | 6 => wx.heap[(w.heap.size + 1 + 1)]? = some (.cells (pw (x % 115792089237316195423570985008687907853269984665640564039457584007913129639936 + y % 115792089237316195423570985008687907853269984665640564039457584007913129639936)) 24 (0, 0)) | _ => True) (Rs (w.heap.size + 1 + 1) (x % 115792089237316195423570985008687907853269984665640564039457584007913129639936 + y % 115792089237316195423570985008687907853269984665640564039457584007913129639936)) (by kernel_rfl) (by kernel_rfl) ?_ ?_ ?_ ?_
  · exact ⟨by go_grown, (heap3 _ _ _ _).1, (heap3 _ _ _ _).2.1, _, rfl, (heap3 _ _ _ _).2.2⟩
  · intro i v wa wb hR h
    match i, h with
    | 0, h => exact h
    | 1, h => exact DgS.keep hR.1 h
    | 2, h => exact h
    | 3, h => exact DgS.keep hR.1 h
    | 4, h => exact DgS.keep hR.1 h
    | 5, h => exact h
    | 6, h => exact hR.2 h
    | _ + 7, _ => trivial
  · refine ⟨fun a wx hC hK => ?_, fun a wx hC hK => ?_, fun a wx hC hK => ?_, fun a wx hC hK => ?_, fun a wx hC hK => ?_, fun a wx hC hK => ?_, fun a wx hC hK => ?_, trivial⟩
    · exact st_load 24 (.tmp 2) (.pointer (some ⟨w.heap.size, 0, none⟩)) (wv x) rfl (by kernel_rfl) (fun h => by cases h) (hK.1 2 (by kernel_rfl)) (load_pw hC.2.1) hC rfl (Rs.refl _ _ _)
    · have h0 : a.tmps.getD 5 undef = wv x := hK.2 ⟨0, .data⟩ (by simp) rfl _ rfl
      refine st_call 63 #[a.tmps.getD 5 undef] (by kernel_rfl) ⟨_, rfl⟩ (by kernel_rfl) ?_
      rw [h0]
      refine (digits_any x wx).mono fun e w' h => ?_
      obtain ⟨v, he, hb, hv⟩ := mk_step hC.lt h
      exact ⟨v, he, hC.below hb, hv, Rs.of hC.lt hb⟩
    · exact st_load 24 (.tmp 3) (.pointer (some ⟨w.heap.size + 1, 0, none⟩)) (wv y) rfl (by kernel_rfl) (fun h => by cases h) (hK.1 3 (by kernel_rfl)) (load_pw hC.2.2.1) hC rfl (Rs.refl _ _ _)
    · have h0 : a.tmps.getD 7 undef = wv y := hK.2 ⟨2, .data⟩ (by simp) rfl _ rfl
      refine st_call 63 #[a.tmps.getD 7 undef] (by kernel_rfl) ⟨_, rfl⟩ (by kernel_rfl) ?_
      rw [h0]
      refine (digits_any y wx).mono fun e w' h => ?_
      obtain ⟨v, he, hb, hv⟩ := mk_step hC.lt h
      exact ⟨v, he, hC.below hb, hv, Rs.of hC.lt hb⟩
    · obtain ⟨b1, c1, d1, e1, -, hD1, hl1, hv1⟩ : DgS (w.heap.size + 1 + 1) 16 (x % 115792089237316195423570985008687907853269984665640564039457584007913129639936) (a.tmps.getD 6 undef) wx := hK.2 ⟨1, .data⟩ (by simp) rfl _ rfl
      obtain ⟨b2, c2, d2, e2, -, hD2, hl2, hv2⟩ : DgS (w.heap.size + 1 + 1) 16 (y % 115792089237316195423570985008687907853269984665640564039457584007913129639936) (a.tmps.getD 8 undef) wx := hK.2 ⟨3, .data⟩ (by simp) rfl _ rfl
      refine st_call 62 #[a.tmps.getD 6 undef, a.tmps.getD 8 undef] (by kernel_rfl) ⟨_, rfl⟩ (by kernel_rfl) ?_
      rw [e1, e2]
      refine (sum_any b1 c1 b2 c2 16 16 d1 d2 (by decide) (by decide) hl1 hl2 wx hD1 hD2).mono fun e w' h => ?_
      rw [hv1, hv2] at h
      obtain ⟨v, he, hb, hv⟩ := mk_step hC.lt h
      exact ⟨v, he, hC.below hb, hv, Rs.of hC.lt hb⟩
    · obtain ⟨b1, c1, d1, e1, -, hD1, hl1, hv1⟩ : DgS (w.heap.size + 1 + 1) 17 (x % 115792089237316195423570985008687907853269984665640564039457584007913129639936 + y % 115792089237316195423570985008687907853269984665640564039457584007913129639936) (a.tmps.getD 9 undef) wx := hK.2 ⟨4, .data⟩ (by simp) rfl _ rfl
      refine st_call 61 #[a.tmps.getD 9 undef] (by kernel_rfl) ⟨_, rfl⟩ (by kernel_rfl) ?_
      rw [e1]
      refine (word_any b1 c1 17 d1 (by decide) hl1 wx hD1).mono fun e w' h => ?_
      rw [hv1] at h
      exact ⟨_, h.1, hC.below h.2, rfl, Rs.of hC.lt h.2⟩
    · have h0 : a.tmps.getD 10 undef = wv (x % 115792089237316195423570985008687907853269984665640564039457584007913129639936 + y % 115792089237316195423570985008687907853269984665640564039457584007913129639936) := hK.2 ⟨5, .data⟩ (by simp) rfl _ rfl
      obtain ⟨-, -, -, cs, hcs, hrow⟩ := id hC
      exact st_store (by kernel_rfl) (run_store 24 (.tmp 4) (.tmp 10) _ _ rfl (hK.1 4 (by kernel_rfl)) h0 (store_pw hcs hrow)) (hC.row _ rfl) (setRow_heap _ _ _ _ _ _ hrow) (Rs.row hrow)
  · intro f wx hC hf
    have h6 : wx.heap[(w.heap.size + 1 + 1)]? = some (.cells (pw (x % 115792089237316195423570985008687907853269984665640564039457584007913129639936 + y % 115792089237316195423570985008687907853269984665640564039457584007913129639936)) 24 (0, 0)) := hf 6 _ rfl
    generalize hA : putAll _ _ _ = A
    have h4 : A.tmps.getD 4 undef = Value.pointer (some ⟨(w.heap.size + 1 + 1), 0, none⟩) := by subst hA; kernel_rfl
    have hd : A.defers = [] := by subst hA; kernel_rfl
    clear hA hf
    go_wp2
    (try simp only [Exit.inBlock, Exit.then])
    exact bodyPost_ret (v := .agg (pw (x % 115792089237316195423570985008687907853269984665640564039457584007913129639936 + y % 115792089237316195423570985008687907853269984665640564039457584007913129639936))) (results_cell_row (p := 4) rfl _ _ (w.heap.size + 1 + 1) 24 _ (0, 0) _ h4 h6 Tryd.underlying24 rfl infoWord) hd ⟨rfl, hC.1⟩

set_option maxRecDepth 100000 in
set_option maxHeartbeats 2000000 in
-- WHAT mul COMES TO.
theorem mul_ref (x y : Nat) (w : World) :
    Calls Tryd.prog 18 #[.agg (pw x), .agg (pw y)] w fun e w' => e = .returned (wv (x * y)) ∧ Below w.heap.size w w' := by
  have E : wv (x % 115792089237316195423570985008687907853269984665640564039457584007913129639936 * (y % 115792089237316195423570985008687907853269984665640564039457584007913129639936)) = wv (x * y) := wv_congr (by rw [← Nat.mul_mod])
  rw [← E]
  clear E
  go_enter Tryd.func18, Tryd.ntmps18
  go_wp2_with fail
  refine region_inv (CB w x y) (fun i v wx => match i with | 0 => v = wv x | 1 => DgS (w.heap.size + 1 + 1) 16 (x % 115792089237316195423570985008687907853269984665640564039457584007913129639936) v wx | 2 => v = wv y | 3 => DgS (w.heap.size + 1 + 1) 16 (y % 115792089237316195423570985008687907853269984665640564039457584007913129639936) v wx | 4 => DgS (w.heap.size + 1 + 1) 32 (x % 115792089237316195423570985008687907853269984665640564039457584007913129639936 * (y % 115792089237316195423570985008687907853269984665640564039457584007913129639936)) v wx | 5 => v = wv (x % 115792089237316195423570985008687907853269984665640564039457584007913129639936 * (y % 115792089237316195423570985008687907853269984665640564039457584007913129639936)) | 6 => wx.heap[(w.heap.size + 1 + 1)]? = some (.cells (pw (x % 115792089237316195423570985008687907853269984665640564039457584007913129639936 * (y % 115792089237316195423570985008687907853269984665640564039457584007913129639936))) 24 (0, 0)) | _ => True) (Rs (w.heap.size + 1 + 1) (x % 115792089237316195423570985008687907853269984665640564039457584007913129639936 * (y % 115792089237316195423570985008687907853269984665640564039457584007913129639936))) (by kernel_rfl) (by kernel_rfl) ?_ ?_ ?_ ?_
  · exact ⟨by go_grown, (heap3 _ _ _ _).1, (heap3 _ _ _ _).2.1, _, rfl, (heap3 _ _ _ _).2.2⟩
  · intro i v wa wb hR h
    match i, h with
    | 0, h => exact h
    | 1, h => exact DgS.keep hR.1 h
    | 2, h => exact h
    | 3, h => exact DgS.keep hR.1 h
    | 4, h => exact DgS.keep hR.1 h
    | 5, h => exact h
    | 6, h => exact hR.2 h
    | _ + 7, _ => trivial
  · refine ⟨fun a wx hC hK => ?_, fun a wx hC hK => ?_, fun a wx hC hK => ?_, fun a wx hC hK => ?_, fun a wx hC hK => ?_, fun a wx hC hK => ?_, fun a wx hC hK => ?_, trivial⟩
    · exact st_load 24 (.tmp 2) (.pointer (some ⟨w.heap.size, 0, none⟩)) (wv x) rfl (by kernel_rfl) (fun h => by cases h) (hK.1 2 (by kernel_rfl)) (load_pw hC.2.1) hC rfl (Rs.refl _ _ _)
    · have h0 : a.tmps.getD 5 undef = wv x := hK.2 ⟨0, .data⟩ (by simp) rfl _ rfl
      refine st_call 63 #[a.tmps.getD 5 undef] (by kernel_rfl) ⟨_, rfl⟩ (by kernel_rfl) ?_
      rw [h0]
      refine (digits_any x wx).mono fun e w' h => ?_
      obtain ⟨v, he, hb, hv⟩ := mk_step hC.lt h
      exact ⟨v, he, hC.below hb, hv, Rs.of hC.lt hb⟩
    · exact st_load 24 (.tmp 3) (.pointer (some ⟨w.heap.size + 1, 0, none⟩)) (wv y) rfl (by kernel_rfl) (fun h => by cases h) (hK.1 3 (by kernel_rfl)) (load_pw hC.2.2.1) hC rfl (Rs.refl _ _ _)
    · have h0 : a.tmps.getD 7 undef = wv y := hK.2 ⟨2, .data⟩ (by simp) rfl _ rfl
      refine st_call 63 #[a.tmps.getD 7 undef] (by kernel_rfl) ⟨_, rfl⟩ (by kernel_rfl) ?_
      rw [h0]
      refine (digits_any y wx).mono fun e w' h => ?_
      obtain ⟨v, he, hb, hv⟩ := mk_step hC.lt h
      exact ⟨v, he, hC.below hb, hv, Rs.of hC.lt hb⟩
    · obtain ⟨b1, c1, d1, e1, -, hD1, hl1, hv1⟩ : DgS (w.heap.size + 1 + 1) 16 (x % 115792089237316195423570985008687907853269984665640564039457584007913129639936) (a.tmps.getD 6 undef) wx := hK.2 ⟨1, .data⟩ (by simp) rfl _ rfl
      obtain ⟨b2, c2, d2, e2, -, hD2, hl2, hv2⟩ : DgS (w.heap.size + 1 + 1) 16 (y % 115792089237316195423570985008687907853269984665640564039457584007913129639936) (a.tmps.getD 8 undef) wx := hK.2 ⟨3, .data⟩ (by simp) rfl _ rfl
      refine st_call 68 #[a.tmps.getD 6 undef, a.tmps.getD 8 undef] (by kernel_rfl) ⟨_, rfl⟩ (by kernel_rfl) ?_
      rw [e1, e2]
      refine (product_digits b1 c1 b2 c2 16 16 d1 d2 (by decide) (by decide) hl1 hl2 wx hD1 hD2).mono fun e w' h => ?_
      rw [hv1, hv2] at h
      obtain ⟨v, he, hb, hv⟩ := mk_step hC.lt h
      exact ⟨v, he, hC.below hb, hv, Rs.of hC.lt hb⟩
    · obtain ⟨b1, c1, d1, e1, -, hD1, hl1, hv1⟩ : DgS (w.heap.size + 1 + 1) 32 (x % 115792089237316195423570985008687907853269984665640564039457584007913129639936 * (y % 115792089237316195423570985008687907853269984665640564039457584007913129639936)) (a.tmps.getD 9 undef) wx := hK.2 ⟨4, .data⟩ (by simp) rfl _ rfl
      refine st_call 61 #[a.tmps.getD 9 undef] (by kernel_rfl) ⟨_, rfl⟩ (by kernel_rfl) ?_
      rw [e1]
      refine (word_any b1 c1 32 d1 (by decide) hl1 wx hD1).mono fun e w' h => ?_
      rw [hv1] at h
      exact ⟨_, h.1, hC.below h.2, rfl, Rs.of hC.lt h.2⟩
    · have h0 : a.tmps.getD 10 undef = wv (x % 115792089237316195423570985008687907853269984665640564039457584007913129639936 * (y % 115792089237316195423570985008687907853269984665640564039457584007913129639936)) := hK.2 ⟨5, .data⟩ (by simp) rfl _ rfl
      obtain ⟨-, -, -, cs, hcs, hrow⟩ := id hC
      exact st_store (by kernel_rfl) (run_store 24 (.tmp 4) (.tmp 10) _ _ rfl (hK.1 4 (by kernel_rfl)) h0 (store_pw hcs hrow)) (hC.row _ rfl) (setRow_heap _ _ _ _ _ _ hrow) (Rs.row hrow)
  · intro f wx hC hf
    have h6 : wx.heap[(w.heap.size + 1 + 1)]? = some (.cells (pw (x % 115792089237316195423570985008687907853269984665640564039457584007913129639936 * (y % 115792089237316195423570985008687907853269984665640564039457584007913129639936))) 24 (0, 0)) := hf 6 _ rfl
    generalize hA : putAll _ _ _ = A
    have h4 : A.tmps.getD 4 undef = Value.pointer (some ⟨(w.heap.size + 1 + 1), 0, none⟩) := by subst hA; kernel_rfl
    have hd : A.defers = [] := by subst hA; kernel_rfl
    clear hA hf
    go_wp2
    (try simp only [Exit.inBlock, Exit.then])
    exact bodyPost_ret (v := .agg (pw (x % 115792089237316195423570985008687907853269984665640564039457584007913129639936 * (y % 115792089237316195423570985008687907853269984665640564039457584007913129639936)))) (results_cell_row (p := 4) rfl _ _ (w.heap.size + 1 + 1) 24 _ (0, 0) _ h4 h6 Tryd.underlying24 rfl infoWord) hd ⟨rfl, hC.1⟩

set_option maxRecDepth 100000 in
set_option maxHeartbeats 1000000 in
theorem notr_walk (a0 a1 a2 a3 : Nat) (w : World) :
    Calls Tryd.prog 44 #[.agg #[.int .u64 a0, .int .u64 a1, .int .u64 a2, .int .u64 a3]] w fun e w' => e = .returned (.agg #[.int .u64 (bits .xor .u64 IntKind.u64.max (a0 : Int)), .int .u64 (bits .xor .u64 IntKind.u64.max (a1 : Int)), .int .u64 (bits .xor .u64 IntKind.u64.max (a2 : Int)), .int .u64 (bits .xor .u64 IntKind.u64.max (a3 : Int))]) ∧ Below w.heap.size w w' := by
  go_enter Tryd.func44, Tryd.ntmps44
  go_wp2
  go_returns
  exact ⟨rfl, by go_grown⟩
-- WHAT bailiwickref01.Not COMES TO.
theorem not_ref (x : Nat) (w : World) :
    Calls Tryd.prog 44 #[wv x] w fun e w' => e = .returned (wv (115792089237316195423570985008687907853269984665640564039457584007913129639935 - x % 115792089237316195423570985008687907853269984665640564039457584007913129639936)) ∧ Below w.heap.size w w' := by
  obtain ⟨a0, a1, a2, a3, u0, u1, u2, u3, ea, na⟩ := wv_parts x
  rw [ea, ← na, ← n4_comp (c0 := 18446744073709551615 - a0) (c1 := 18446744073709551615 - a1) (c2 := 18446744073709551615 - a2) (c3 := 18446744073709551615 - a3) (by omega) (by omega) (by omega) (by omega), wv_n4 (by omega) (by omega) (by omega) (by omega), ← xor_ones u0, ← xor_ones u1, ← xor_ones u2, ← xor_ones u3]
  exact notr_walk a0 a1 a2 a3 w

set_option maxRecDepth 100000 in
set_option maxHeartbeats 1000000 in
theorem negr_walk (a0 a1 a2 a3 p0 p1 p2 p3 : Nat) (Va Vn : Value) (ea : Va = .agg #[.int .u64 a0, .int .u64 a1, .int .u64 a2, .int .u64 a3]) (w : World)
    (hN : ∀ w, Calls Tryd.prog 44 #[.agg #[.int .u64 a0, .int .u64 a1, .int .u64 a2, .int .u64 a3]] w fun e w' => e = .returned Vn ∧ Below w.heap.size w w')
    (hA : ∀ w, Calls Tryd.prog 14 #[Vn, .agg #[.int .u64 1, .int .u64 0, .int .u64 0, .int .u64 0]] w fun e w' => e = .returned (.agg #[.int .u64 p0, .int .u64 p1, .int .u64 p2, .int .u64 p3]) ∧ Below w.heap.size w w') :
    Calls Tryd.prog 65 #[Va] w fun e w' => e = .returned (.agg #[.int .u64 p0, .int .u64 p1, .int .u64 p2, .int .u64 p3]) ∧ Below w.heap.size w w' := by
  subst ea
  go_enter Tryd.func65, Tryd.ntmps65
  go_wp2_with fail
  refine (hN _).mono ?_
  rintro e w1 ⟨rfl, hb⟩
  obtain ⟨⟨q0, q1, q2, q3⟩, ⟨f0, f1, f2, f3⟩, hz, hb'⟩ := after4 (w := w) (B := w.heap.size) (w.heap.size + 1) hb (by go_grown) (by simp; omega) (by simp) (by go_cell) (by go_cell) (by go_cell) (by go_cell) (by go_cell) (by go_cell) (by go_cell) (by go_cell)
  clear hb
  go_wp2_with fail
  refine (hA _).mono ?_
  rintro e w2 ⟨rfl, hb⟩
  obtain ⟨⟨r0, r1, r2, r3⟩, ⟨g0, g1, g2, g3⟩, hy, hb''⟩ := after4 (w := w) (B := w.heap.size) (w.heap.size + 1) hb hb' hb'.size hz q0 q1 q2 q3 f0 f1 f2 f3
  clear hb q0 q1 q2 q3 f0 f1 f2 f3 hz
  go_wp2
  refine bodyPost_ret (by simp [results, Tryd.results65, go_sem, r0, r1, r2, r3]; try rfl) rfl ⟨rfl, ?_⟩
  go_grown
-- WHAT bailiwickref01.Neg COMES TO.
theorem neg_ref (x : Nat) (w : World) :
    Calls Tryd.prog 65 #[wv x] w fun e w' => e = .returned (wv (115792089237316195423570985008687907853269984665640564039457584007913129639936 - x % 115792089237316195423570985008687907853269984665640564039457584007913129639936)) ∧ Below w.heap.size w w' := by
  obtain ⟨a0, a1, a2, a3, -, -, -, -, ea, -⟩ := wv_parts x
  obtain ⟨p0, p1, p2, p3, -, -, -, -, ep, -⟩ := wv_parts (115792089237316195423570985008687907853269984665640564039457584007913129639936 - x % 115792089237316195423570985008687907853269984665640564039457584007913129639936)
  have hN := fun w => not_ref x w
  rw [ea] at hN
  rw [ep]
  refine negr_walk a0 a1 a2 a3 p0 p1 p2 p3 (wv x) _ ea w hN (fun w => ?_)
  rw [← ep]
  have h := add_ref (115792089237316195423570985008687907853269984665640564039457584007913129639935 - x % 115792089237316195423570985008687907853269984665640564039457584007913129639936) 1 w
  rw [show 115792089237316195423570985008687907853269984665640564039457584007913129639935 - x % 115792089237316195423570985008687907853269984665640564039457584007913129639936 + 1 = 115792089237316195423570985008687907853269984665640564039457584007913129639936 - x % 115792089237316195423570985008687907853269984665640564039457584007913129639936 by omega] at h
  exact h

set_option maxRecDepth 100000 in
set_option maxHeartbeats 2000000 in
-- WHAT bailiwickref01.Sub COMES TO.
theorem sub_ref (x y : Nat) (w : World) :
    Calls Tryd.prog 16 #[.agg (pw x), .agg (pw y)] w fun e w' => e = .returned (wv (x + (115792089237316195423570985008687907853269984665640564039457584007913129639936 - y % 115792089237316195423570985008687907853269984665640564039457584007913129639936))) ∧ Below w.heap.size w w' := by
  go_enter Tryd.func16, Tryd.ntmps16
  go_wp2_with fail
  refine region_inv (CB w x y) (fun i v wx => match i with | 0 => v = wv x | 1 => v = wv y | 2 => v = wv (115792089237316195423570985008687907853269984665640564039457584007913129639936 - y % 115792089237316195423570985008687907853269984665640564039457584007913129639936) | 3 => v = wv (x + (115792089237316195423570985008687907853269984665640564039457584007913129639936 - y % 115792089237316195423570985008687907853269984665640564039457584007913129639936)) | 4 => wx.heap[(w.heap.size + 1 + 1)]? = some (.cells (pw (x + (115792089237316195423570985008687907853269984665640564039457584007913129639936 - y % 115792089237316195423570985008687907853269984665640564039457584007913129639936))) 24 (0, 0)) | _ => True) (Rs (w.heap.size + 1 + 1) (x + (115792089237316195423570985008687907853269984665640564039457584007913129639936 - y % 115792089237316195423570985008687907853269984665640564039457584007913129639936))) (by kernel_rfl) (by kernel_rfl) ?_ ?_ ?_ ?_
  · exact ⟨by go_grown, (heap3 _ _ _ _).1, (heap3 _ _ _ _).2.1, _, rfl, (heap3 _ _ _ _).2.2⟩
  · intro i v wa wb hR h
    match i, h with
    | 0, h => exact h
    | 1, h => exact h
    | 2, h => exact h
    | 3, h => exact h
    | 4, h => exact hR.2 h
    | _ + 5, _ => trivial
  · refine ⟨fun a wx hC hK => ?_, fun a wx hC hK => ?_, fun a wx hC hK => ?_, fun a wx hC hK => ?_, fun a wx hC hK => ?_, trivial⟩
    · exact st_load 24 (.tmp 2) (.pointer (some ⟨w.heap.size, 0, none⟩)) (wv x) rfl (by kernel_rfl) (fun h => by cases h) (hK.1 2 (by kernel_rfl)) (load_pw hC.2.1) hC rfl (Rs.refl _ _ _)
    · exact st_load 24 (.tmp 3) (.pointer (some ⟨w.heap.size + 1, 0, none⟩)) (wv y) rfl (by kernel_rfl) (fun h => by cases h) (hK.1 3 (by kernel_rfl)) (load_pw hC.2.2.1) hC rfl (Rs.refl _ _ _)
    · have h0 : a.tmps.getD 6 undef = wv y := hK.2 ⟨1, .data⟩ (by simp) rfl _ rfl
      refine st_call 65 #[a.tmps.getD 6 undef] (by kernel_rfl) ⟨_, rfl⟩ (by kernel_rfl) ?_
      rw [h0]
      exact (neg_ref y wx).mono fun e w' h => ⟨_, h.1, hC.below h.2, rfl, Rs.of hC.lt h.2⟩
    · have h0 : a.tmps.getD 5 undef = wv x := hK.2 ⟨0, .data⟩ (by simp) rfl _ rfl
      have h1 : a.tmps.getD 7 undef = wv (115792089237316195423570985008687907853269984665640564039457584007913129639936 - y % 115792089237316195423570985008687907853269984665640564039457584007913129639936) := hK.2 ⟨2, .data⟩ (by simp) rfl _ rfl
      refine st_call 14 #[a.tmps.getD 5 undef, a.tmps.getD 7 undef] (by kernel_rfl) ⟨_, rfl⟩ (by kernel_rfl) ?_
      rw [h0, h1]
      exact (add_ref x (115792089237316195423570985008687907853269984665640564039457584007913129639936 - y % 115792089237316195423570985008687907853269984665640564039457584007913129639936) wx).mono fun e w' h => ⟨_, h.1, hC.below h.2, rfl, Rs.of hC.lt h.2⟩
    · have h0 : a.tmps.getD 8 undef = wv (x + (115792089237316195423570985008687907853269984665640564039457584007913129639936 - y % 115792089237316195423570985008687907853269984665640564039457584007913129639936)) := hK.2 ⟨3, .data⟩ (by simp) rfl _ rfl
      obtain ⟨-, -, -, cs, hcs, hrow⟩ := id hC
      exact st_store (by kernel_rfl) (run_store 24 (.tmp 4) (.tmp 8) _ _ rfl (hK.1 4 (by kernel_rfl)) h0 (store_pw hcs hrow)) (hC.row _ rfl) (setRow_heap _ _ _ _ _ _ hrow) (Rs.row hrow)
  · intro f wx hC hf
    have h6 : wx.heap[(w.heap.size + 1 + 1)]? = some (.cells (pw (x + (115792089237316195423570985008687907853269984665640564039457584007913129639936 - y % 115792089237316195423570985008687907853269984665640564039457584007913129639936))) 24 (0, 0)) := hf 4 _ rfl
    generalize hA : putAll _ _ _ = A
    have h4 : A.tmps.getD 4 undef = Value.pointer (some ⟨(w.heap.size + 1 + 1), 0, none⟩) := by subst hA; kernel_rfl
    have hd : A.defers = [] := by subst hA; kernel_rfl
    clear hA hf
    go_wp2
    (try simp only [Exit.inBlock, Exit.then])
    exact bodyPost_ret (v := .agg (pw (x + (115792089237316195423570985008687907853269984665640564039457584007913129639936 - y % 115792089237316195423570985008687907853269984665640564039457584007913129639936)))) (results_cell_row (p := 4) rfl _ _ (w.heap.size + 1 + 1) 24 _ (0, 0) _ h4 h6 Tryd.underlying24 rfl infoWord) hd ⟨rfl, hC.1⟩
end Go.Proofs.YthfadinocadhaaaDoor
namespace Go.Proofs.YthfadinocadhaaaDoor
open Go.RowKit

set_option maxRecDepth 100000 in
set_option maxHeartbeats 2000000 in
theorem ring_walk (a0 a1 a2 a3 b0 b1 b2 b3 c0 c1 c2 c3 s0 s1 s2 s3 : Nat) (Va Vb Vc Vs Vt Vu Vm Vp Vq Vv Vx : Value) (w : World)
    (hs0 : ∀ w, Calls Tryd.prog 13 #[.agg #[.int .u64 a0, .int .u64 a1, .int .u64 a2, .int .u64 a3], .agg #[.int .u64 b0, .int .u64 b1, .int .u64 b2, .int .u64 b3]] w fun e w' => e = .returned (.agg #[.int .u64 s0, .int .u64 s1, .int .u64 s2, .int .u64 s3]) ∧ Below w.heap.size w w')
    (hqs : ∀ w, (binOp BinOp.eql 24 Vs Vs).run Tryd.prog w = .ok (.bool true) w) (hgs : ∀ o1 o2 w, (eqGuard BinOp.eql 24 o1 o2 Vs Vs).run Tryd.prog w = .ok () w)
    (hqa : ∀ w, (binOp BinOp.eql 24 Va Va).run Tryd.prog w = .ok (.bool true) w) (hga : ∀ o1 o2 w, (eqGuard BinOp.eql 24 o1 o2 Va Va).run Tryd.prog w = .ok () w)
    (hqt : ∀ w, (binOp BinOp.eql 24 Vt Vt).run Tryd.prog w = .ok (.bool true) w) (hgt : ∀ o1 o2 w, (eqGuard BinOp.eql 24 o1 o2 Vt Vt).run Tryd.prog w = .ok () w)
    (hqm : ∀ w, (binOp BinOp.eql 24 Vm Vm).run Tryd.prog w = .ok (.bool true) w) (hgm : ∀ o1 o2 w, (eqGuard BinOp.eql 24 o1 o2 Vm Vm).run Tryd.prog w = .ok () w)
    (hqp : ∀ w, (binOp BinOp.eql 24 Vp Vp).run Tryd.prog w = .ok (.bool true) w) (hgp : ∀ o1 o2 w, (eqGuard BinOp.eql 24 o1 o2 Vp Vp).run Tryd.prog w = .ok () w)
    (hqv : ∀ w, (binOp BinOp.eql 24 Vv Vv).run Tryd.prog w = .ok (.bool true) w) (hgv : ∀ o1 o2 w, (eqGuard BinOp.eql 24 o1 o2 Vv Vv).run Tryd.prog w = .ok () w)
    (ea : Va = .agg #[.int .u64 a0, .int .u64 a1, .int .u64 a2, .int .u64 a3])    (eb : Vb = .agg #[.int .u64 b0, .int .u64 b1, .int .u64 b2, .int .u64 b3])    (ec : Vc = .agg #[.int .u64 c0, .int .u64 c1, .int .u64 c2, .int .u64 c3])    (es : Vs = .agg #[.int .u64 s0, .int .u64 s1, .int .u64 s2, .int .u64 s3])
    (hba : ∀ w, Calls Tryd.prog 13 #[Vb, Va] w fun e w' => e = .returned Vs ∧ Below w.heap.size w w')
    (hsb : ∀ w, Calls Tryd.prog 15 #[Vs, Vb] w fun e w' => e = .returned Va ∧ Below w.heap.size w w')
    (hsc : ∀ w, Calls Tryd.prog 13 #[Vs, Vc] w fun e w' => e = .returned Vt ∧ Below w.heap.size w w')
    (hbc : ∀ w, Calls Tryd.prog 13 #[Vb, Vc] w fun e w' => e = .returned Vu ∧ Below w.heap.size w w')
    (hau : ∀ w, Calls Tryd.prog 13 #[Va, Vu] w fun e w' => e = .returned Vt ∧ Below w.heap.size w w')
    (hmab : ∀ w, Calls Tryd.prog 17 #[Va, Vb] w fun e w' => e = .returned Vm ∧ Below w.heap.size w w')
    (hmba : ∀ w, Calls Tryd.prog 17 #[Vb, Va] w fun e w' => e = .returned Vm ∧ Below w.heap.size w w')
    (hmmc : ∀ w, Calls Tryd.prog 17 #[Vm, Vc] w fun e w' => e = .returned Vp ∧ Below w.heap.size w w')
    (hmbc : ∀ w, Calls Tryd.prog 17 #[Vb, Vc] w fun e w' => e = .returned Vq ∧ Below w.heap.size w w')
    (hmaq : ∀ w, Calls Tryd.prog 17 #[Va, Vq] w fun e w' => e = .returned Vp ∧ Below w.heap.size w w')
    (hmsc : ∀ w, Calls Tryd.prog 17 #[Vs, Vc] w fun e w' => e = .returned Vv ∧ Below w.heap.size w w')
    (hmac : ∀ w, Calls Tryd.prog 17 #[Va, Vc] w fun e w' => e = .returned Vx ∧ Below w.heap.size w w')
    (hxq : ∀ w, Calls Tryd.prog 13 #[Vx, Vq] w fun e w' => e = .returned Vv ∧ Below w.heap.size w w')
    (hlv : ∀ w, Calls Tryd.prog 19 #[] w fun e w' => e = .returned (.bool true) ∧ Below w.heap.size w w') :
    Calls Tryd.prog 10 #[.agg #[.int .u64 a0, .int .u64 a1, .int .u64 a2, .int .u64 a3], .agg #[.int .u64 b0, .int .u64 b1, .int .u64 b2, .int .u64 b3], .agg #[.int .u64 c0, .int .u64 c1, .int .u64 c2, .int .u64 c3]] w fun e w' => e = .returned (.bool true) ∧ Below w.heap.size w w' := by
  have Hba := Lib.hid hba; clear hba
  have Hsb := Lib.hid hsb; clear hsb
  have Hsc := Lib.hid hsc; clear hsc
  have Hbc := Lib.hid hbc; clear hbc
  have Hau := Lib.hid hau; clear hau
  have Hmab := Lib.hid hmab; clear hmab
  have Hmba := Lib.hid hmba; clear hmba
  have Hmmc := Lib.hid hmmc; clear hmmc
  have Hmbc := Lib.hid hmbc; clear hmbc
  have Hmaq := Lib.hid hmaq; clear hmaq
  have Hmsc := Lib.hid hmsc; clear hmsc
  have Hmac := Lib.hid hmac; clear hmac
  have Hxq := Lib.hid hxq; clear hxq
  have Hlv := Lib.hid hlv; clear hlv
  have Hs0 := Lib.hid hs0; clear hs0
  have Hqs := Lib.hid hqs; clear hqs
  have Hgs := Lib.hid hgs; clear hgs
  have Hqa := Lib.hid hqa; clear hqa
  have Hga := Lib.hid hga; clear hga
  have Hqt := Lib.hid hqt; clear hqt
  have Hgt := Lib.hid hgt; clear hgt
  have Hqm := Lib.hid hqm; clear hqm
  have Hgm := Lib.hid hgm; clear hgm
  have Hqp := Lib.hid hqp; clear hqp
  have Hgp := Lib.hid hgp; clear hgp
  have Hqv := Lib.hid hqv; clear hqv
  have Hgv := Lib.hid hgv; clear hgv
  have Ea := Lib.hid ea; clear ea
  have Eb := Lib.hid eb; clear eb
  have Ec := Lib.hid ec; clear ec
  have Es := Lib.hid es; clear es
  go_enter Tryd.func10, Tryd.ntmps10
  go_wp2_with fail
  refine (Hs0.out _).mono ?_
  rintro e w1 ⟨rfl, hb⟩
  have z1 : w.heap.size + 1 + 1 < w1.heap.size := by have h := hb.size; simp at h; omega
  have hB1 : Below w.heap.size w w1 := Below.trans (by go_grown) (hb.mono (by simp; omega))
  have ac0 : w1.cell? ⟨w.heap.size, 0, none⟩ = some (.int .u64 a0) := (hb.cell (p := ⟨w.heap.size, 0, none⟩) (by first | (simp; done) | (simp; omega))).trans (by go_cell)
  have ac1 : w1.cell? ⟨w.heap.size, 1, none⟩ = some (.int .u64 a1) := (hb.cell (p := ⟨w.heap.size, 1, none⟩) (by first | (simp; done) | (simp; omega))).trans (by go_cell)
  have ac2 : w1.cell? ⟨w.heap.size, 2, none⟩ = some (.int .u64 a2) := (hb.cell (p := ⟨w.heap.size, 2, none⟩) (by first | (simp; done) | (simp; omega))).trans (by go_cell)
  have ac3 : w1.cell? ⟨w.heap.size, 3, none⟩ = some (.int .u64 a3) := (hb.cell (p := ⟨w.heap.size, 3, none⟩) (by first | (simp; done) | (simp; omega))).trans (by go_cell)
  have bc0 : w1.cell? ⟨w.heap.size + 1, 0, none⟩ = some (.int .u64 b0) := (hb.cell (p := ⟨w.heap.size + 1, 0, none⟩) (by first | (simp; done) | (simp; omega))).trans (by go_cell)
  have bc1 : w1.cell? ⟨w.heap.size + 1, 1, none⟩ = some (.int .u64 b1) := (hb.cell (p := ⟨w.heap.size + 1, 1, none⟩) (by first | (simp; done) | (simp; omega))).trans (by go_cell)
  have bc2 : w1.cell? ⟨w.heap.size + 1, 2, none⟩ = some (.int .u64 b2) := (hb.cell (p := ⟨w.heap.size + 1, 2, none⟩) (by first | (simp; done) | (simp; omega))).trans (by go_cell)
  have bc3 : w1.cell? ⟨w.heap.size + 1, 3, none⟩ = some (.int .u64 b3) := (hb.cell (p := ⟨w.heap.size + 1, 3, none⟩) (by first | (simp; done) | (simp; omega))).trans (by go_cell)
  have cc0 : w1.cell? ⟨w.heap.size + 1 + 1, 0, none⟩ = some (.int .u64 c0) := (hb.cell (p := ⟨w.heap.size + 1 + 1, 0, none⟩) (by first | (simp; done) | (simp; omega))).trans (by go_cell)
  have cc1 : w1.cell? ⟨w.heap.size + 1 + 1, 1, none⟩ = some (.int .u64 c1) := (hb.cell (p := ⟨w.heap.size + 1 + 1, 1, none⟩) (by first | (simp; done) | (simp; omega))).trans (by go_cell)
  have cc2 : w1.cell? ⟨w.heap.size + 1 + 1, 2, none⟩ = some (.int .u64 c2) := (hb.cell (p := ⟨w.heap.size + 1 + 1, 2, none⟩) (by first | (simp; done) | (simp; omega))).trans (by go_cell)
  have cc3 : w1.cell? ⟨w.heap.size + 1 + 1, 3, none⟩ = some (.int .u64 c3) := (hb.cell (p := ⟨w.heap.size + 1 + 1, 3, none⟩) (by first | (simp; done) | (simp; omega))).trans (by go_cell)
  clear hb
  have z2 : w.heap.size < w1.heap.size := by omega
  have z3 : w.heap.size + 1 < w1.heap.size := by omega
  have hcl : ClG w w1.heap.size (fun wx => Holds4 w.heap.size (.int .u64 a0) (.int .u64 a1) (.int .u64 a2) (.int .u64 a3) wx ∧ Holds4 (w.heap.size + 1) (.int .u64 b0) (.int .u64 b1) (.int .u64 b2) (.int .u64 b3) wx ∧ Holds4 (w.heap.size + 1 + 1) (.int .u64 c0) (.int .u64 c1) (.int .u64 c2) (.int .u64 c3) wx ∧ Holds4 w1.heap.size (.int .u64 s0) (.int .u64 s1) (.int .u64 s2) (.int .u64 s3) wx) (w1.alloc (.cells #[.int .u64 s0, .int .u64 s1, .int .u64 s2, .int .u64 s3] 24)) := ⟨(by go_grown), (by simp), ⟨⟨by go_cell, by go_cell, by go_cell, by go_cell⟩, ⟨by go_cell, by go_cell, by go_cell, by go_cell⟩, ⟨by go_cell, by go_cell, by go_cell, by go_cell⟩, ⟨by go_cell, by go_cell, by go_cell, by go_cell⟩⟩⟩
  have hkeep : ∀ wx w', w1.heap.size < wx.heap.size → Below wx.heap.size wx w' → (fun wx => Holds4 w.heap.size (.int .u64 a0) (.int .u64 a1) (.int .u64 a2) (.int .u64 a3) wx ∧ Holds4 (w.heap.size + 1) (.int .u64 b0) (.int .u64 b1) (.int .u64 b2) (.int .u64 b3) wx ∧ Holds4 (w.heap.size + 1 + 1) (.int .u64 c0) (.int .u64 c1) (.int .u64 c2) (.int .u64 c3) wx ∧ Holds4 w1.heap.size (.int .u64 s0) (.int .u64 s1) (.int .u64 s2) (.int .u64 s3) wx) wx → (fun wx => Holds4 w.heap.size (.int .u64 a0) (.int .u64 a1) (.int .u64 a2) (.int .u64 a3) wx ∧ Holds4 (w.heap.size + 1) (.int .u64 b0) (.int .u64 b1) (.int .u64 b2) (.int .u64 b3) wx ∧ Holds4 (w.heap.size + 1 + 1) (.int .u64 c0) (.int .u64 c1) (.int .u64 c2) (.int .u64 c3) wx ∧ Holds4 w1.heap.size (.int .u64 s0) (.int .u64 s1) (.int .u64 s2) (.int .u64 s3) wx) w' := fun wx w' ht hb ⟨h1, h2, h3, h4⟩ => ⟨h1.below hb (by omega), h2.below hb (by omega), h3.below hb (by omega), h4.below hb ht⟩
  have hLa : ∀ wx, (ClG w w1.heap.size (fun wx => Holds4 w.heap.size (.int .u64 a0) (.int .u64 a1) (.int .u64 a2) (.int .u64 a3) wx ∧ Holds4 (w.heap.size + 1) (.int .u64 b0) (.int .u64 b1) (.int .u64 b2) (.int .u64 b3) wx ∧ Holds4 (w.heap.size + 1 + 1) (.int .u64 c0) (.int .u64 c1) (.int .u64 c2) (.int .u64 c3) wx ∧ Holds4 w1.heap.size (.int .u64 s0) (.int .u64 s1) (.int .u64 s2) (.int .u64 s3) wx)) wx → (Instr.loadAt 24 (.pointer (some ⟨w.heap.size, 0, none⟩))).run Tryd.prog wx = .ok Va wx := fun wx hC => by rw [Ea.out]; exact load4 _ hC.2.2.1
  have hLb : ∀ wx, (ClG w w1.heap.size (fun wx => Holds4 w.heap.size (.int .u64 a0) (.int .u64 a1) (.int .u64 a2) (.int .u64 a3) wx ∧ Holds4 (w.heap.size + 1) (.int .u64 b0) (.int .u64 b1) (.int .u64 b2) (.int .u64 b3) wx ∧ Holds4 (w.heap.size + 1 + 1) (.int .u64 c0) (.int .u64 c1) (.int .u64 c2) (.int .u64 c3) wx ∧ Holds4 w1.heap.size (.int .u64 s0) (.int .u64 s1) (.int .u64 s2) (.int .u64 s3) wx)) wx → (Instr.loadAt 24 (.pointer (some ⟨w.heap.size + 1, 0, none⟩))).run Tryd.prog wx = .ok Vb wx := fun wx hC => by rw [Eb.out]; exact load4 _ hC.2.2.2.1
  have hLc : ∀ wx, (ClG w w1.heap.size (fun wx => Holds4 w.heap.size (.int .u64 a0) (.int .u64 a1) (.int .u64 a2) (.int .u64 a3) wx ∧ Holds4 (w.heap.size + 1) (.int .u64 b0) (.int .u64 b1) (.int .u64 b2) (.int .u64 b3) wx ∧ Holds4 (w.heap.size + 1 + 1) (.int .u64 c0) (.int .u64 c1) (.int .u64 c2) (.int .u64 c3) wx ∧ Holds4 w1.heap.size (.int .u64 s0) (.int .u64 s1) (.int .u64 s2) (.int .u64 s3) wx)) wx → (Instr.loadAt 24 (.pointer (some ⟨w.heap.size + 1 + 1, 0, none⟩))).run Tryd.prog wx = .ok Vc wx := fun wx hC => by rw [Ec.out]; exact load4 _ hC.2.2.2.2.1
  have hLs : ∀ wx, (ClG w w1.heap.size (fun wx => Holds4 w.heap.size (.int .u64 a0) (.int .u64 a1) (.int .u64 a2) (.int .u64 a3) wx ∧ Holds4 (w.heap.size + 1) (.int .u64 b0) (.int .u64 b1) (.int .u64 b2) (.int .u64 b3) wx ∧ Holds4 (w.heap.size + 1 + 1) (.int .u64 c0) (.int .u64 c1) (.int .u64 c2) (.int .u64 c3) wx ∧ Holds4 w1.heap.size (.int .u64 s0) (.int .u64 s1) (.int .u64 s2) (.int .u64 s3) wx)) wx → (Instr.loadAt 24 (.pointer (some ⟨w1.heap.size, 0, none⟩))).run Tryd.prog wx = .ok Vs wx := fun wx hC => by rw [Es.out]; exact load4 _ hC.2.2.2.2.2
  have hCba : ∀ wx, (ClG w w1.heap.size (fun wx => Holds4 w.heap.size (.int .u64 a0) (.int .u64 a1) (.int .u64 a2) (.int .u64 a3) wx ∧ Holds4 (w.heap.size + 1) (.int .u64 b0) (.int .u64 b1) (.int .u64 b2) (.int .u64 b3) wx ∧ Holds4 (w.heap.size + 1 + 1) (.int .u64 c0) (.int .u64 c1) (.int .u64 c2) (.int .u64 c3) wx ∧ Holds4 w1.heap.size (.int .u64 s0) (.int .u64 s1) (.int .u64 s2) (.int .u64 s3) wx)) wx → Calls Tryd.prog 13 #[Vb, Va] wx fun e w' => e = .returned Vs ∧ (ClG w w1.heap.size (fun wx => Holds4 w.heap.size (.int .u64 a0) (.int .u64 a1) (.int .u64 a2) (.int .u64 a3) wx ∧ Holds4 (w.heap.size + 1) (.int .u64 b0) (.int .u64 b1) (.int .u64 b2) (.int .u64 b3) wx ∧ Holds4 (w.heap.size + 1 + 1) (.int .u64 c0) (.int .u64 c1) (.int .u64 c2) (.int .u64 c3) wx ∧ Holds4 w1.heap.size (.int .u64 s0) (.int .u64 s1) (.int .u64 s2) (.int .u64 s3) wx)) w' := fun wx hC => (Hba.out wx).mono fun _ _ h => ⟨h.1, hC.below hkeep h.2⟩
  have hCsb : ∀ wx, (ClG w w1.heap.size (fun wx => Holds4 w.heap.size (.int .u64 a0) (.int .u64 a1) (.int .u64 a2) (.int .u64 a3) wx ∧ Holds4 (w.heap.size + 1) (.int .u64 b0) (.int .u64 b1) (.int .u64 b2) (.int .u64 b3) wx ∧ Holds4 (w.heap.size + 1 + 1) (.int .u64 c0) (.int .u64 c1) (.int .u64 c2) (.int .u64 c3) wx ∧ Holds4 w1.heap.size (.int .u64 s0) (.int .u64 s1) (.int .u64 s2) (.int .u64 s3) wx)) wx → Calls Tryd.prog 15 #[Vs, Vb] wx fun e w' => e = .returned Va ∧ (ClG w w1.heap.size (fun wx => Holds4 w.heap.size (.int .u64 a0) (.int .u64 a1) (.int .u64 a2) (.int .u64 a3) wx ∧ Holds4 (w.heap.size + 1) (.int .u64 b0) (.int .u64 b1) (.int .u64 b2) (.int .u64 b3) wx ∧ Holds4 (w.heap.size + 1 + 1) (.int .u64 c0) (.int .u64 c1) (.int .u64 c2) (.int .u64 c3) wx ∧ Holds4 w1.heap.size (.int .u64 s0) (.int .u64 s1) (.int .u64 s2) (.int .u64 s3) wx)) w' := fun wx hC => (Hsb.out wx).mono fun _ _ h => ⟨h.1, hC.below hkeep h.2⟩
  have hCsc : ∀ wx, (ClG w w1.heap.size (fun wx => Holds4 w.heap.size (.int .u64 a0) (.int .u64 a1) (.int .u64 a2) (.int .u64 a3) wx ∧ Holds4 (w.heap.size + 1) (.int .u64 b0) (.int .u64 b1) (.int .u64 b2) (.int .u64 b3) wx ∧ Holds4 (w.heap.size + 1 + 1) (.int .u64 c0) (.int .u64 c1) (.int .u64 c2) (.int .u64 c3) wx ∧ Holds4 w1.heap.size (.int .u64 s0) (.int .u64 s1) (.int .u64 s2) (.int .u64 s3) wx)) wx → Calls Tryd.prog 13 #[Vs, Vc] wx fun e w' => e = .returned Vt ∧ (ClG w w1.heap.size (fun wx => Holds4 w.heap.size (.int .u64 a0) (.int .u64 a1) (.int .u64 a2) (.int .u64 a3) wx ∧ Holds4 (w.heap.size + 1) (.int .u64 b0) (.int .u64 b1) (.int .u64 b2) (.int .u64 b3) wx ∧ Holds4 (w.heap.size + 1 + 1) (.int .u64 c0) (.int .u64 c1) (.int .u64 c2) (.int .u64 c3) wx ∧ Holds4 w1.heap.size (.int .u64 s0) (.int .u64 s1) (.int .u64 s2) (.int .u64 s3) wx)) w' := fun wx hC => (Hsc.out wx).mono fun _ _ h => ⟨h.1, hC.below hkeep h.2⟩
  have hCbc : ∀ wx, (ClG w w1.heap.size (fun wx => Holds4 w.heap.size (.int .u64 a0) (.int .u64 a1) (.int .u64 a2) (.int .u64 a3) wx ∧ Holds4 (w.heap.size + 1) (.int .u64 b0) (.int .u64 b1) (.int .u64 b2) (.int .u64 b3) wx ∧ Holds4 (w.heap.size + 1 + 1) (.int .u64 c0) (.int .u64 c1) (.int .u64 c2) (.int .u64 c3) wx ∧ Holds4 w1.heap.size (.int .u64 s0) (.int .u64 s1) (.int .u64 s2) (.int .u64 s3) wx)) wx → Calls Tryd.prog 13 #[Vb, Vc] wx fun e w' => e = .returned Vu ∧ (ClG w w1.heap.size (fun wx => Holds4 w.heap.size (.int .u64 a0) (.int .u64 a1) (.int .u64 a2) (.int .u64 a3) wx ∧ Holds4 (w.heap.size + 1) (.int .u64 b0) (.int .u64 b1) (.int .u64 b2) (.int .u64 b3) wx ∧ Holds4 (w.heap.size + 1 + 1) (.int .u64 c0) (.int .u64 c1) (.int .u64 c2) (.int .u64 c3) wx ∧ Holds4 w1.heap.size (.int .u64 s0) (.int .u64 s1) (.int .u64 s2) (.int .u64 s3) wx)) w' := fun wx hC => (Hbc.out wx).mono fun _ _ h => ⟨h.1, hC.below hkeep h.2⟩
  have hCau : ∀ wx, (ClG w w1.heap.size (fun wx => Holds4 w.heap.size (.int .u64 a0) (.int .u64 a1) (.int .u64 a2) (.int .u64 a3) wx ∧ Holds4 (w.heap.size + 1) (.int .u64 b0) (.int .u64 b1) (.int .u64 b2) (.int .u64 b3) wx ∧ Holds4 (w.heap.size + 1 + 1) (.int .u64 c0) (.int .u64 c1) (.int .u64 c2) (.int .u64 c3) wx ∧ Holds4 w1.heap.size (.int .u64 s0) (.int .u64 s1) (.int .u64 s2) (.int .u64 s3) wx)) wx → Calls Tryd.prog 13 #[Va, Vu] wx fun e w' => e = .returned Vt ∧ (ClG w w1.heap.size (fun wx => Holds4 w.heap.size (.int .u64 a0) (.int .u64 a1) (.int .u64 a2) (.int .u64 a3) wx ∧ Holds4 (w.heap.size + 1) (.int .u64 b0) (.int .u64 b1) (.int .u64 b2) (.int .u64 b3) wx ∧ Holds4 (w.heap.size + 1 + 1) (.int .u64 c0) (.int .u64 c1) (.int .u64 c2) (.int .u64 c3) wx ∧ Holds4 w1.heap.size (.int .u64 s0) (.int .u64 s1) (.int .u64 s2) (.int .u64 s3) wx)) w' := fun wx hC => (Hau.out wx).mono fun _ _ h => ⟨h.1, hC.below hkeep h.2⟩
  have hCmab : ∀ wx, (ClG w w1.heap.size (fun wx => Holds4 w.heap.size (.int .u64 a0) (.int .u64 a1) (.int .u64 a2) (.int .u64 a3) wx ∧ Holds4 (w.heap.size + 1) (.int .u64 b0) (.int .u64 b1) (.int .u64 b2) (.int .u64 b3) wx ∧ Holds4 (w.heap.size + 1 + 1) (.int .u64 c0) (.int .u64 c1) (.int .u64 c2) (.int .u64 c3) wx ∧ Holds4 w1.heap.size (.int .u64 s0) (.int .u64 s1) (.int .u64 s2) (.int .u64 s3) wx)) wx → Calls Tryd.prog 17 #[Va, Vb] wx fun e w' => e = .returned Vm ∧ (ClG w w1.heap.size (fun wx => Holds4 w.heap.size (.int .u64 a0) (.int .u64 a1) (.int .u64 a2) (.int .u64 a3) wx ∧ Holds4 (w.heap.size + 1) (.int .u64 b0) (.int .u64 b1) (.int .u64 b2) (.int .u64 b3) wx ∧ Holds4 (w.heap.size + 1 + 1) (.int .u64 c0) (.int .u64 c1) (.int .u64 c2) (.int .u64 c3) wx ∧ Holds4 w1.heap.size (.int .u64 s0) (.int .u64 s1) (.int .u64 s2) (.int .u64 s3) wx)) w' := fun wx hC => (Hmab.out wx).mono fun _ _ h => ⟨h.1, hC.below hkeep h.2⟩
  have hCmba : ∀ wx, (ClG w w1.heap.size (fun wx => Holds4 w.heap.size (.int .u64 a0) (.int .u64 a1) (.int .u64 a2) (.int .u64 a3) wx ∧ Holds4 (w.heap.size + 1) (.int .u64 b0) (.int .u64 b1) (.int .u64 b2) (.int .u64 b3) wx ∧ Holds4 (w.heap.size + 1 + 1) (.int .u64 c0) (.int .u64 c1) (.int .u64 c2) (.int .u64 c3) wx ∧ Holds4 w1.heap.size (.int .u64 s0) (.int .u64 s1) (.int .u64 s2) (.int .u64 s3) wx)) wx → Calls Tryd.prog 17 #[Vb, Va] wx fun e w' => e = .returned Vm ∧ (ClG w w1.heap.size (fun wx => Holds4 w.heap.size (.int .u64 a0) (.int .u64 a1) (.int .u64 a2) (.int .u64 a3) wx ∧ Holds4 (w.heap.size + 1) (.int .u64 b0) (.int .u64 b1) (.int .u64 b2) (.int .u64 b3) wx ∧ Holds4 (w.heap.size + 1 + 1) (.int .u64 c0) (.int .u64 c1) (.int .u64 c2) (.int .u64 c3) wx ∧ Holds4 w1.heap.size (.int .u64 s0) (.int .u64 s1) (.int .u64 s2) (.int .u64 s3) wx)) w' := fun wx hC => (Hmba.out wx).mono fun _ _ h => ⟨h.1, hC.below hkeep h.2⟩
  have hCmmc : ∀ wx, (ClG w w1.heap.size (fun wx => Holds4 w.heap.size (.int .u64 a0) (.int .u64 a1) (.int .u64 a2) (.int .u64 a3) wx ∧ Holds4 (w.heap.size + 1) (.int .u64 b0) (.int .u64 b1) (.int .u64 b2) (.int .u64 b3) wx ∧ Holds4 (w.heap.size + 1 + 1) (.int .u64 c0) (.int .u64 c1) (.int .u64 c2) (.int .u64 c3) wx ∧ Holds4 w1.heap.size (.int .u64 s0) (.int .u64 s1) (.int .u64 s2) (.int .u64 s3) wx)) wx → Calls Tryd.prog 17 #[Vm, Vc] wx fun e w' => e = .returned Vp ∧ (ClG w w1.heap.size (fun wx => Holds4 w.heap.size (.int .u64 a0) (.int .u64 a1) (.int .u64 a2) (.int .u64 a3) wx ∧ Holds4 (w.heap.size + 1) (.int .u64 b0) (.int .u64 b1) (.int .u64 b2) (.int .u64 b3) wx ∧ Holds4 (w.heap.size + 1 + 1) (.int .u64 c0) (.int .u64 c1) (.int .u64 c2) (.int .u64 c3) wx ∧ Holds4 w1.heap.size (.int .u64 s0) (.int .u64 s1) (.int .u64 s2) (.int .u64 s3) wx)) w' := fun wx hC => (Hmmc.out wx).mono fun _ _ h => ⟨h.1, hC.below hkeep h.2⟩
  have hCmbc : ∀ wx, (ClG w w1.heap.size (fun wx => Holds4 w.heap.size (.int .u64 a0) (.int .u64 a1) (.int .u64 a2) (.int .u64 a3) wx ∧ Holds4 (w.heap.size + 1) (.int .u64 b0) (.int .u64 b1) (.int .u64 b2) (.int .u64 b3) wx ∧ Holds4 (w.heap.size + 1 + 1) (.int .u64 c0) (.int .u64 c1) (.int .u64 c2) (.int .u64 c3) wx ∧ Holds4 w1.heap.size (.int .u64 s0) (.int .u64 s1) (.int .u64 s2) (.int .u64 s3) wx)) wx → Calls Tryd.prog 17 #[Vb, Vc] wx fun e w' => e = .returned Vq ∧ (ClG w w1.heap.size (fun wx => Holds4 w.heap.size (.int .u64 a0) (.int .u64 a1) (.int .u64 a2) (.int .u64 a3) wx ∧ Holds4 (w.heap.size + 1) (.int .u64 b0) (.int .u64 b1) (.int .u64 b2) (.int .u64 b3) wx ∧ Holds4 (w.heap.size + 1 + 1) (.int .u64 c0) (.int .u64 c1) (.int .u64 c2) (.int .u64 c3) wx ∧ Holds4 w1.heap.size (.int .u64 s0) (.int .u64 s1) (.int .u64 s2) (.int .u64 s3) wx)) w' := fun wx hC => (Hmbc.out wx).mono fun _ _ h => ⟨h.1, hC.below hkeep h.2⟩
  have hCmaq : ∀ wx, (ClG w w1.heap.size (fun wx => Holds4 w.heap.size (.int .u64 a0) (.int .u64 a1) (.int .u64 a2) (.int .u64 a3) wx ∧ Holds4 (w.heap.size + 1) (.int .u64 b0) (.int .u64 b1) (.int .u64 b2) (.int .u64 b3) wx ∧ Holds4 (w.heap.size + 1 + 1) (.int .u64 c0) (.int .u64 c1) (.int .u64 c2) (.int .u64 c3) wx ∧ Holds4 w1.heap.size (.int .u64 s0) (.int .u64 s1) (.int .u64 s2) (.int .u64 s3) wx)) wx → Calls Tryd.prog 17 #[Va, Vq] wx fun e w' => e = .returned Vp ∧ (ClG w w1.heap.size (fun wx => Holds4 w.heap.size (.int .u64 a0) (.int .u64 a1) (.int .u64 a2) (.int .u64 a3) wx ∧ Holds4 (w.heap.size + 1) (.int .u64 b0) (.int .u64 b1) (.int .u64 b2) (.int .u64 b3) wx ∧ Holds4 (w.heap.size + 1 + 1) (.int .u64 c0) (.int .u64 c1) (.int .u64 c2) (.int .u64 c3) wx ∧ Holds4 w1.heap.size (.int .u64 s0) (.int .u64 s1) (.int .u64 s2) (.int .u64 s3) wx)) w' := fun wx hC => (Hmaq.out wx).mono fun _ _ h => ⟨h.1, hC.below hkeep h.2⟩
  have hCmsc : ∀ wx, (ClG w w1.heap.size (fun wx => Holds4 w.heap.size (.int .u64 a0) (.int .u64 a1) (.int .u64 a2) (.int .u64 a3) wx ∧ Holds4 (w.heap.size + 1) (.int .u64 b0) (.int .u64 b1) (.int .u64 b2) (.int .u64 b3) wx ∧ Holds4 (w.heap.size + 1 + 1) (.int .u64 c0) (.int .u64 c1) (.int .u64 c2) (.int .u64 c3) wx ∧ Holds4 w1.heap.size (.int .u64 s0) (.int .u64 s1) (.int .u64 s2) (.int .u64 s3) wx)) wx → Calls Tryd.prog 17 #[Vs, Vc] wx fun e w' => e = .returned Vv ∧ (ClG w w1.heap.size (fun wx => Holds4 w.heap.size (.int .u64 a0) (.int .u64 a1) (.int .u64 a2) (.int .u64 a3) wx ∧ Holds4 (w.heap.size + 1) (.int .u64 b0) (.int .u64 b1) (.int .u64 b2) (.int .u64 b3) wx ∧ Holds4 (w.heap.size + 1 + 1) (.int .u64 c0) (.int .u64 c1) (.int .u64 c2) (.int .u64 c3) wx ∧ Holds4 w1.heap.size (.int .u64 s0) (.int .u64 s1) (.int .u64 s2) (.int .u64 s3) wx)) w' := fun wx hC => (Hmsc.out wx).mono fun _ _ h => ⟨h.1, hC.below hkeep h.2⟩
  have hCmac : ∀ wx, (ClG w w1.heap.size (fun wx => Holds4 w.heap.size (.int .u64 a0) (.int .u64 a1) (.int .u64 a2) (.int .u64 a3) wx ∧ Holds4 (w.heap.size + 1) (.int .u64 b0) (.int .u64 b1) (.int .u64 b2) (.int .u64 b3) wx ∧ Holds4 (w.heap.size + 1 + 1) (.int .u64 c0) (.int .u64 c1) (.int .u64 c2) (.int .u64 c3) wx ∧ Holds4 w1.heap.size (.int .u64 s0) (.int .u64 s1) (.int .u64 s2) (.int .u64 s3) wx)) wx → Calls Tryd.prog 17 #[Va, Vc] wx fun e w' => e = .returned Vx ∧ (ClG w w1.heap.size (fun wx => Holds4 w.heap.size (.int .u64 a0) (.int .u64 a1) (.int .u64 a2) (.int .u64 a3) wx ∧ Holds4 (w.heap.size + 1) (.int .u64 b0) (.int .u64 b1) (.int .u64 b2) (.int .u64 b3) wx ∧ Holds4 (w.heap.size + 1 + 1) (.int .u64 c0) (.int .u64 c1) (.int .u64 c2) (.int .u64 c3) wx ∧ Holds4 w1.heap.size (.int .u64 s0) (.int .u64 s1) (.int .u64 s2) (.int .u64 s3) wx)) w' := fun wx hC => (Hmac.out wx).mono fun _ _ h => ⟨h.1, hC.below hkeep h.2⟩
  have hCxq : ∀ wx, (ClG w w1.heap.size (fun wx => Holds4 w.heap.size (.int .u64 a0) (.int .u64 a1) (.int .u64 a2) (.int .u64 a3) wx ∧ Holds4 (w.heap.size + 1) (.int .u64 b0) (.int .u64 b1) (.int .u64 b2) (.int .u64 b3) wx ∧ Holds4 (w.heap.size + 1 + 1) (.int .u64 c0) (.int .u64 c1) (.int .u64 c2) (.int .u64 c3) wx ∧ Holds4 w1.heap.size (.int .u64 s0) (.int .u64 s1) (.int .u64 s2) (.int .u64 s3) wx)) wx → Calls Tryd.prog 13 #[Vx, Vq] wx fun e w' => e = .returned Vv ∧ (ClG w w1.heap.size (fun wx => Holds4 w.heap.size (.int .u64 a0) (.int .u64 a1) (.int .u64 a2) (.int .u64 a3) wx ∧ Holds4 (w.heap.size + 1) (.int .u64 b0) (.int .u64 b1) (.int .u64 b2) (.int .u64 b3) wx ∧ Holds4 (w.heap.size + 1 + 1) (.int .u64 c0) (.int .u64 c1) (.int .u64 c2) (.int .u64 c3) wx ∧ Holds4 w1.heap.size (.int .u64 s0) (.int .u64 s1) (.int .u64 s2) (.int .u64 s3) wx)) w' := fun wx hC => (Hxq.out wx).mono fun _ _ h => ⟨h.1, hC.below hkeep h.2⟩
  have hClv : ∀ wx, (ClG w w1.heap.size (fun wx => Holds4 w.heap.size (.int .u64 a0) (.int .u64 a1) (.int .u64 a2) (.int .u64 a3) wx ∧ Holds4 (w.heap.size + 1) (.int .u64 b0) (.int .u64 b1) (.int .u64 b2) (.int .u64 b3) wx ∧ Holds4 (w.heap.size + 1 + 1) (.int .u64 c0) (.int .u64 c1) (.int .u64 c2) (.int .u64 c3) wx ∧ Holds4 w1.heap.size (.int .u64 s0) (.int .u64 s1) (.int .u64 s2) (.int .u64 s3) wx)) wx → Calls Tryd.prog 19 #[] wx fun e w' => e = .returned (.bool true) ∧ (ClG w w1.heap.size (fun wx => Holds4 w.heap.size (.int .u64 a0) (.int .u64 a1) (.int .u64 a2) (.int .u64 a3) wx ∧ Holds4 (w.heap.size + 1) (.int .u64 b0) (.int .u64 b1) (.int .u64 b2) (.int .u64 b3) wx ∧ Holds4 (w.heap.size + 1 + 1) (.int .u64 c0) (.int .u64 c1) (.int .u64 c2) (.int .u64 c3) wx ∧ Holds4 w1.heap.size (.int .u64 s0) (.int .u64 s1) (.int .u64 s2) (.int .u64 s3) wx)) w' := fun wx hC => (Hlv.out wx).mono fun _ _ h => ⟨h.1, hC.below hkeep h.2⟩
  have HLa := Lib.hid hLa; clear hLa
  have HLb := Lib.hid hLb; clear hLb
  have HLc := Lib.hid hLc; clear hLc
  have HLs := Lib.hid hLs; clear hLs
  have HCba := Lib.hid hCba; clear hCba
  have HCsb := Lib.hid hCsb; clear hCsb
  have HCsc := Lib.hid hCsc; clear hCsc
  have HCbc := Lib.hid hCbc; clear hCbc
  have HCau := Lib.hid hCau; clear hCau
  have HCmab := Lib.hid hCmab; clear hCmab
  have HCmba := Lib.hid hCmba; clear hCmba
  have HCmmc := Lib.hid hCmmc; clear hCmmc
  have HCmbc := Lib.hid hCmbc; clear hCmbc
  have HCmaq := Lib.hid hCmaq; clear hCmaq
  have HCmsc := Lib.hid hCmsc; clear hCmsc
  have HCmac := Lib.hid hCmac; clear hCmac
  have HCxq := Lib.hid hCxq; clear hCxq
  have HClv := Lib.hid hClv; clear hClv
  clear hkeep
  have HCL := Lib.hid hcl; clear hcl
  clear hB1 ac0 ac1 ac2 ac3 bc0 bc1 bc2 bc3 cc0 cc1 cc2 cc3 z1 z2 z3
  go_wp2_with fail
  refine wp_region_quiet (C := (ClG w w1.heap.size (fun wx => Holds4 w.heap.size (.int .u64 a0) (.int .u64 a1) (.int .u64 a2) (.int .u64 a3) wx ∧ Holds4 (w.heap.size + 1) (.int .u64 b0) (.int .u64 b1) (.int .u64 b2) (.int .u64 b3) wx ∧ Holds4 (w.heap.size + 1 + 1) (.int .u64 c0) (.int .u64 c1) (.int .u64 c2) (.int .u64 c3) wx ∧ Holds4 w1.heap.size (.int .u64 s0) (.int .u64 s1) (.int .u64 s2) (.int .u64 s3) wx))) (by kernel_rfl) (by kernel_rfl) (HCL.out.drew (fun _ h => h)) ?_
  with_reducible refine q_load 24 (.tmp 7) (.pointer (some ⟨w1.heap.size, 0, none⟩)) (Vs) rfl (by kernel_rfl) (by kernel_rfl) HLs.out ?_
  with_reducible refine q_load 24 (.tmp 4) (.pointer (some ⟨w.heap.size + 1, 0, none⟩)) (Vb) rfl (by kernel_rfl) (by kernel_rfl) HLb.out ?_
  with_reducible refine q_load 24 (.tmp 3) (.pointer (some ⟨w.heap.size, 0, none⟩)) (Va) rfl (by kernel_rfl) (by kernel_rfl) HLa.out ?_
  with_reducible refine q_call 13 #[Vb, Va] (Vs) (by kernel_rfl) (fun _ => by kernel_rfl) HCba.out ?_
  with_reducible refine q_bin .eql 24 _ _ 24 (Vs) (Vs) (.bool true) rfl (by kernel_rfl) (by kernel_rfl) (by kernel_rfl) (Hgs.out _ _) Hqs.out ?_
  with_reducible refine q_val (.bool true) (by kernel_rfl) (fun _ _ => by kernel_rfl) ?_
  with_reducible refine q_load 24 (.tmp 7) (.pointer (some ⟨w1.heap.size, 0, none⟩)) (Vs) rfl (by kernel_rfl) (by kernel_rfl) HLs.out ?_
  with_reducible refine q_load 24 (.tmp 4) (.pointer (some ⟨w.heap.size + 1, 0, none⟩)) (Vb) rfl (by kernel_rfl) (by kernel_rfl) HLb.out ?_
  with_reducible refine q_call 15 #[Vs, Vb] (Va) (by kernel_rfl) (fun _ => by kernel_rfl) HCsb.out ?_
  with_reducible refine q_load 24 (.tmp 3) (.pointer (some ⟨w.heap.size, 0, none⟩)) (Va) rfl (by kernel_rfl) (by kernel_rfl) HLa.out ?_
  with_reducible refine q_bin .eql 24 _ _ 24 (Va) (Va) (.bool true) rfl (by kernel_rfl) (by kernel_rfl) (by kernel_rfl) (Hga.out _ _) Hqa.out ?_
  with_reducible refine q_val (.bool true) (by kernel_rfl) (fun _ _ => by kernel_rfl) ?_
  with_reducible refine q_val (.bool true) (by kernel_rfl) (fun _ _ => by kernel_rfl) ?_
  with_reducible refine q_load 24 (.tmp 7) (.pointer (some ⟨w1.heap.size, 0, none⟩)) (Vs) rfl (by kernel_rfl) (by kernel_rfl) HLs.out ?_
  with_reducible refine q_load 24 (.tmp 5) (.pointer (some ⟨w.heap.size + 1 + 1, 0, none⟩)) (Vc) rfl (by kernel_rfl) (by kernel_rfl) HLc.out ?_
  with_reducible refine q_call 13 #[Vs, Vc] (Vt) (by kernel_rfl) (fun _ => by kernel_rfl) HCsc.out ?_
  with_reducible refine q_load 24 (.tmp 3) (.pointer (some ⟨w.heap.size, 0, none⟩)) (Va) rfl (by kernel_rfl) (by kernel_rfl) HLa.out ?_
  with_reducible refine q_load 24 (.tmp 4) (.pointer (some ⟨w.heap.size + 1, 0, none⟩)) (Vb) rfl (by kernel_rfl) (by kernel_rfl) HLb.out ?_
  with_reducible refine q_load 24 (.tmp 5) (.pointer (some ⟨w.heap.size + 1 + 1, 0, none⟩)) (Vc) rfl (by kernel_rfl) (by kernel_rfl) HLc.out ?_
  with_reducible refine q_call 13 #[Vb, Vc] (Vu) (by kernel_rfl) (fun _ => by kernel_rfl) HCbc.out ?_
  with_reducible refine q_call 13 #[Va, Vu] (Vt) (by kernel_rfl) (fun _ => by kernel_rfl) HCau.out ?_
  with_reducible refine q_bin .eql 24 _ _ 24 (Vt) (Vt) (.bool true) rfl (by kernel_rfl) (by kernel_rfl) (by kernel_rfl) (Hgt.out _ _) Hqt.out ?_
  with_reducible refine q_val (.bool true) (by kernel_rfl) (fun _ _ => by kernel_rfl) ?_
  with_reducible refine q_val (.bool true) (by kernel_rfl) (fun _ _ => by kernel_rfl) ?_
  with_reducible refine q_load 24 (.tmp 3) (.pointer (some ⟨w.heap.size, 0, none⟩)) (Va) rfl (by kernel_rfl) (by kernel_rfl) HLa.out ?_
  with_reducible refine q_load 24 (.tmp 4) (.pointer (some ⟨w.heap.size + 1, 0, none⟩)) (Vb) rfl (by kernel_rfl) (by kernel_rfl) HLb.out ?_
  with_reducible refine q_call 17 #[Va, Vb] (Vm) (by kernel_rfl) (fun _ => by kernel_rfl) HCmab.out ?_
  with_reducible refine q_load 24 (.tmp 4) (.pointer (some ⟨w.heap.size + 1, 0, none⟩)) (Vb) rfl (by kernel_rfl) (by kernel_rfl) HLb.out ?_
  with_reducible refine q_load 24 (.tmp 3) (.pointer (some ⟨w.heap.size, 0, none⟩)) (Va) rfl (by kernel_rfl) (by kernel_rfl) HLa.out ?_
  with_reducible refine q_call 17 #[Vb, Va] (Vm) (by kernel_rfl) (fun _ => by kernel_rfl) HCmba.out ?_
  with_reducible refine q_bin .eql 24 _ _ 24 (Vm) (Vm) (.bool true) rfl (by kernel_rfl) (by kernel_rfl) (by kernel_rfl) (Hgm.out _ _) Hqm.out ?_
  with_reducible refine q_val (.bool true) (by kernel_rfl) (fun _ _ => by kernel_rfl) ?_
  with_reducible refine q_val (.bool true) (by kernel_rfl) (fun _ _ => by kernel_rfl) ?_
  with_reducible refine q_load 24 (.tmp 3) (.pointer (some ⟨w.heap.size, 0, none⟩)) (Va) rfl (by kernel_rfl) (by kernel_rfl) HLa.out ?_
  with_reducible refine q_load 24 (.tmp 4) (.pointer (some ⟨w.heap.size + 1, 0, none⟩)) (Vb) rfl (by kernel_rfl) (by kernel_rfl) HLb.out ?_
  with_reducible refine q_call 17 #[Va, Vb] (Vm) (by kernel_rfl) (fun _ => by kernel_rfl) HCmab.out ?_
  with_reducible refine q_load 24 (.tmp 5) (.pointer (some ⟨w.heap.size + 1 + 1, 0, none⟩)) (Vc) rfl (by kernel_rfl) (by kernel_rfl) HLc.out ?_
  with_reducible refine q_call 17 #[Vm, Vc] (Vp) (by kernel_rfl) (fun _ => by kernel_rfl) HCmmc.out ?_
  with_reducible refine q_load 24 (.tmp 3) (.pointer (some ⟨w.heap.size, 0, none⟩)) (Va) rfl (by kernel_rfl) (by kernel_rfl) HLa.out ?_
  with_reducible refine q_load 24 (.tmp 4) (.pointer (some ⟨w.heap.size + 1, 0, none⟩)) (Vb) rfl (by kernel_rfl) (by kernel_rfl) HLb.out ?_
  with_reducible refine q_load 24 (.tmp 5) (.pointer (some ⟨w.heap.size + 1 + 1, 0, none⟩)) (Vc) rfl (by kernel_rfl) (by kernel_rfl) HLc.out ?_
  with_reducible refine q_call 17 #[Vb, Vc] (Vq) (by kernel_rfl) (fun _ => by kernel_rfl) HCmbc.out ?_
  with_reducible refine q_call 17 #[Va, Vq] (Vp) (by kernel_rfl) (fun _ => by kernel_rfl) HCmaq.out ?_
  with_reducible refine q_bin .eql 24 _ _ 24 (Vp) (Vp) (.bool true) rfl (by kernel_rfl) (by kernel_rfl) (by kernel_rfl) (Hgp.out _ _) Hqp.out ?_
  with_reducible refine q_val (.bool true) (by kernel_rfl) (fun _ _ => by kernel_rfl) ?_
  with_reducible refine q_val (.bool true) (by kernel_rfl) (fun _ _ => by kernel_rfl) ?_
  with_reducible refine q_load 24 (.tmp 7) (.pointer (some ⟨w1.heap.size, 0, none⟩)) (Vs) rfl (by kernel_rfl) (by kernel_rfl) HLs.out ?_
  with_reducible refine q_load 24 (.tmp 5) (.pointer (some ⟨w.heap.size + 1 + 1, 0, none⟩)) (Vc) rfl (by kernel_rfl) (by kernel_rfl) HLc.out ?_
  with_reducible refine q_call 17 #[Vs, Vc] (Vv) (by kernel_rfl) (fun _ => by kernel_rfl) HCmsc.out ?_
  with_reducible refine q_load 24 (.tmp 3) (.pointer (some ⟨w.heap.size, 0, none⟩)) (Va) rfl (by kernel_rfl) (by kernel_rfl) HLa.out ?_
  with_reducible refine q_load 24 (.tmp 5) (.pointer (some ⟨w.heap.size + 1 + 1, 0, none⟩)) (Vc) rfl (by kernel_rfl) (by kernel_rfl) HLc.out ?_
  with_reducible refine q_call 17 #[Va, Vc] (Vx) (by kernel_rfl) (fun _ => by kernel_rfl) HCmac.out ?_
  with_reducible refine q_load 24 (.tmp 4) (.pointer (some ⟨w.heap.size + 1, 0, none⟩)) (Vb) rfl (by kernel_rfl) (by kernel_rfl) HLb.out ?_
  with_reducible refine q_load 24 (.tmp 5) (.pointer (some ⟨w.heap.size + 1 + 1, 0, none⟩)) (Vc) rfl (by kernel_rfl) (by kernel_rfl) HLc.out ?_
  with_reducible refine q_call 17 #[Vb, Vc] (Vq) (by kernel_rfl) (fun _ => by kernel_rfl) HCmbc.out ?_
  with_reducible refine q_call 13 #[Vx, Vq] (Vv) (by kernel_rfl) (fun _ => by kernel_rfl) HCxq.out ?_
  with_reducible refine q_bin .eql 24 _ _ 24 (Vv) (Vv) (.bool true) rfl (by kernel_rfl) (by kernel_rfl) (by kernel_rfl) (Hgv.out _ _) Hqv.out ?_
  with_reducible refine q_val (.bool true) (by kernel_rfl) (fun _ _ => by kernel_rfl) ?_
  with_reducible refine q_val (.bool true) (by kernel_rfl) (fun _ _ => by kernel_rfl) ?_
  with_reducible refine q_call 19 #[] (.bool true) (by kernel_rfl) (fun _ => by kernel_rfl) HClv.out ?_
  with_reducible refine q_val (.bool true) (by kernel_rfl) (fun _ _ => by kernel_rfl) ?_
  with_reducible refine q_val (.bool true) (by kernel_rfl) (fun _ _ => by kernel_rfl) ?_
  with_reducible refine wpQuiet_nil ?_
  intro wx hC
  have hB := hC.1
  clear hC
  generalize hA : Act.put _ _ _ = A
  have h6 : A.tmps.getD 6 undef = Value.bool true := by subst hA; kernel_rfl
  have hd : A.defers = [] := by subst hA; kernel_rfl
  clear hA
  go_wp2
  (try simp only [Exit.inBlock, Exit.then])
  refine bodyPost_ret (v := .bool true) (by rw [results_tmp rfl _ _ _, h6]) hd ⟨rfl, hB⟩
end Go.Proofs.YthfadinocadhaaaDoor
namespace Go.Proofs.YthfadinocadhaaaDoor
open Go.RowKit

theorem nan_any (x : Nat) (w : World) : Calls Tryd.prog 92 #[.int .u64 x] w fun e w' => e = .returned (.bool false) ∧ w = w' := by
  go_enter Tryd.func92, Tryd.ntmps92
  go_wp2
  go_ret
  exact ⟨rfl, rfl⟩

set_option maxHeartbeats 400000 in
theorem compare_lt (x y : Nat) (h : (x : Int) < y) (w : World) : Calls Tryd.prog 71 #[.int .u64 x, .int .u64 y] w fun e w' => e = .returned (.int .i64 (-1)) ∧ w = w' := by
  go_enter Tryd.func71, Tryd.ntmps71
  go_wp2_with (go_at_call 92; refine (nan_any _ _).mono ?_; rintro e w' ⟨rfl, rfl⟩)
  go_ret
  exact ⟨rfl, rfl⟩
set_option maxHeartbeats 400000 in
theorem compare_gt (x y : Nat) (h : (y : Int) < x) (w : World) : Calls Tryd.prog 71 #[.int .u64 x, .int .u64 y] w fun e w' => e = .returned (.int .i64 1) ∧ w = w' := by
  have h' : ¬ (x : Int) < y := by omega
  go_enter Tryd.func71, Tryd.ntmps71
  go_wp2_with (go_at_call 92; refine (nan_any _ _).mono ?_; rintro e w' ⟨rfl, rfl⟩)
  go_ret
  exact ⟨rfl, rfl⟩

set_option maxRecDepth 100000 in
set_option maxHeartbeats 1000000 in
theorem cmp_3 (a0 a1 a2 a3 b0 b1 b2 b3 : Nat) (r : Int) (hn : ((a3 : Int) != b3) = true) (w : World)
    (hc : ∀ w, Calls Tryd.prog 71 #[.int .u64 a3, .int .u64 b3] w fun e w' => e = .returned (.int .i64 r) ∧ w = w') :
    Calls Tryd.prog 22 #[.agg #[.int .u64 a0, .int .u64 a1, .int .u64 a2, .int .u64 a3], .agg #[.int .u64 b0, .int .u64 b1, .int .u64 b2, .int .u64 b3]] w fun e w' => e = .returned (.int .i64 r) ∧ Below w.heap.size w w' := by
  go_enter Tryd.func22, Tryd.ntmps22
  go_wp2
  refine wp_loop_rounds 5 ?_
  rw [rounds_succ]; go_wp2; go_region; go_wp2
  go_region_with (go_at_call 71; refine (hc _).mono ?_; rintro e w' ⟨rfl, rfl⟩)
  all_goals (go_wp2; go_ret; exact ⟨rfl, by go_grown⟩)

set_option maxRecDepth 100000 in
set_option maxHeartbeats 1000000 in
theorem cmp_2 (a0 a1 a2 a3 b0 b1 b2 : Nat) (r : Int) (hn : ((a2 : Int) != b2) = true) (w : World)
    (hc : ∀ w, Calls Tryd.prog 71 #[.int .u64 a2, .int .u64 b2] w fun e w' => e = .returned (.int .i64 r) ∧ w = w') :
    Calls Tryd.prog 22 #[.agg #[.int .u64 a0, .int .u64 a1, .int .u64 a2, .int .u64 a3], .agg #[.int .u64 b0, .int .u64 b1, .int .u64 b2, .int .u64 a3]] w fun e w' => e = .returned (.int .i64 r) ∧ Below w.heap.size w w' := by
  go_enter Tryd.func22, Tryd.ntmps22
  go_wp2
  refine wp_loop_rounds 5 ?_
  rw [rounds_succ]; go_wp2; go_region; go_wp2
  rw [rounds_succ]; go_wp2; go_region; go_wp2
  go_region_with (go_at_call 71; refine (hc _).mono ?_; rintro e w' ⟨rfl, rfl⟩)
  all_goals (go_wp2; go_ret; exact ⟨rfl, by go_grown⟩)

set_option maxRecDepth 100000 in
set_option maxHeartbeats 1000000 in
theorem cmp_1 (a0 a1 a2 a3 b0 b1 : Nat) (r : Int) (hn : ((a1 : Int) != b1) = true) (w : World)
    (hc : ∀ w, Calls Tryd.prog 71 #[.int .u64 a1, .int .u64 b1] w fun e w' => e = .returned (.int .i64 r) ∧ w = w') :
    Calls Tryd.prog 22 #[.agg #[.int .u64 a0, .int .u64 a1, .int .u64 a2, .int .u64 a3], .agg #[.int .u64 b0, .int .u64 b1, .int .u64 a2, .int .u64 a3]] w fun e w' => e = .returned (.int .i64 r) ∧ Below w.heap.size w w' := by
  go_enter Tryd.func22, Tryd.ntmps22
  go_wp2
  refine wp_loop_rounds 5 ?_
  rw [rounds_succ]; go_wp2; go_region; go_wp2
  rw [rounds_succ]; go_wp2; go_region; go_wp2
  rw [rounds_succ]; go_wp2; go_region; go_wp2
  go_region_with (go_at_call 71; refine (hc _).mono ?_; rintro e w' ⟨rfl, rfl⟩)
  all_goals (go_wp2; go_ret; exact ⟨rfl, by go_grown⟩)

set_option maxRecDepth 100000 in
set_option maxHeartbeats 1000000 in
theorem cmp_0 (a0 a1 a2 a3 b0 : Nat) (r : Int) (hn : ((a0 : Int) != b0) = true) (w : World)
    (hc : ∀ w, Calls Tryd.prog 71 #[.int .u64 a0, .int .u64 b0] w fun e w' => e = .returned (.int .i64 r) ∧ w = w') :
    Calls Tryd.prog 22 #[.agg #[.int .u64 a0, .int .u64 a1, .int .u64 a2, .int .u64 a3], .agg #[.int .u64 b0, .int .u64 a1, .int .u64 a2, .int .u64 a3]] w fun e w' => e = .returned (.int .i64 r) ∧ Below w.heap.size w w' := by
  go_enter Tryd.func22, Tryd.ntmps22
  go_wp2
  refine wp_loop_rounds 5 ?_
  rw [rounds_succ]; go_wp2; go_region; go_wp2
  rw [rounds_succ]; go_wp2; go_region; go_wp2
  rw [rounds_succ]; go_wp2; go_region; go_wp2
  rw [rounds_succ]; go_wp2; go_region; go_wp2
  go_region_with (go_at_call 71; refine (hc _).mono ?_; rintro e w' ⟨rfl, rfl⟩)
  all_goals (go_wp2; go_ret; exact ⟨rfl, by go_grown⟩)

set_option maxRecDepth 100000 in
set_option maxHeartbeats 1000000 in
theorem cmp_e (a0 a1 a2 a3 : Nat) (w : World) :
    Calls Tryd.prog 22 #[.agg #[.int .u64 a0, .int .u64 a1, .int .u64 a2, .int .u64 a3], .agg #[.int .u64 a0, .int .u64 a1, .int .u64 a2, .int .u64 a3]] w fun e w' => e = .returned (.int .i64 0) ∧ Below w.heap.size w w' := by
  go_enter Tryd.func22, Tryd.ntmps22
  go_wp2
  refine wp_loop_rounds 5 ?_
  iterate 4 (rw [rounds_succ]; go_wp2; go_region; go_wp2)
  rw [rounds_succ]; go_wp2
  go_ret
  exact ⟨rfl, by go_grown⟩

theorem compare_any (x y : Nat) (h : x ≠ y) (w : World) : Calls Tryd.prog 71 #[.int .u64 x, .int .u64 y] w fun e w' => e = .returned (.int .i64 (if x < y then -1 else 1)) ∧ w = w' := by
  by_cases hlt : x < y
  · rw [if_pos hlt]; exact compare_lt x y (by omega) w
  · rw [if_neg hlt]; exact compare_gt x y (by omega) w

/-- The order of two numbers. -/
def ord (x y : Nat) : Int := if x < y then -1 else if y < x then 1 else 0

theorem neB {x y : Nat} (h : x ≠ y) : ((x : Int) != (y : Int)) = true := by rw [bne_iff_ne]; omega

-- WHAT Cmp COMES TO.
theorem cmp_any (x y : Nat) (w : World) :
    Calls Tryd.prog 22 #[wv x, wv y] w fun e w' => e = .returned (.int .i64 (ord (x % 115792089237316195423570985008687907853269984665640564039457584007913129639936) (y % 115792089237316195423570985008687907853269984665640564039457584007913129639936))) ∧ Below w.heap.size w w' := by
  obtain ⟨a0, a1, a2, a3, u0, u1, u2, u3, ea, na⟩ := wv_parts x
  obtain ⟨b0, b1, b2, b3, v0, v1, v2, v3, eb, nb⟩ := wv_parts y
  rw [ea, eb, ← na, ← nb]
  have key : ∀ p q : Nat, p ≠ q → (p < q ↔ n4 a0 a1 a2 a3 < n4 b0 b1 b2 b3) → n4 a0 a1 a2 a3 ≠ n4 b0 b1 b2 b3 → (if p < q then (-1 : Int) else 1) = ord (n4 a0 a1 a2 a3) (n4 b0 b1 b2 b3) := by
    intro p q hpq hi hn
    unfold ord
    by_cases h : p < q
    · rw [if_pos h, if_pos (hi.1 h)]
    · rw [if_neg h, if_neg (fun h' => h (hi.2 h')), if_pos (by have : ¬ n4 a0 a1 a2 a3 < n4 b0 b1 b2 b3 := fun h' => h (hi.2 h'); omega)]
  by_cases h3 : a3 = b3
  · by_cases h2 : a2 = b2
    · by_cases h1 : a1 = b1
      · by_cases h0 : a0 = b0
        · subst h0 h1 h2 h3
          have : ord (n4 a0 a1 a2 a3) (n4 a0 a1 a2 a3) = 0 := by unfold ord; simp
          rw [this]
          exact cmp_e a0 a1 a2 a3 w
        · subst h1 h2 h3
          rw [← key a0 b0 h0 (by unfold n4; omega) (by unfold n4; omega)]
          exact cmp_0 _ _ _ _ _ _ (neB h0) w (compare_any a0 b0 h0)
      · subst h2 h3
        rw [← key a1 b1 h1 (by unfold n4; omega) (by unfold n4; omega)]
        exact cmp_1 _ _ _ _ _ _ _ (neB h1) w (compare_any a1 b1 h1)
    · subst h3
      rw [← key a2 b2 h2 (by unfold n4; omega) (by unfold n4; omega)]
      exact cmp_2 _ _ _ _ _ _ _ _ (neB h2) w (compare_any a2 b2 h2)
  · rw [← key a3 b3 h3 (by unfold n4; omega) (by unfold n4; omega)]
    exact cmp_3 _ _ _ _ _ _ _ _ _ (neB h3) w (compare_any a3 b3 h3)
end Go.Proofs.YthfadinocadhaaaDoor
namespace Go.Proofs.YthfadinocadhaaaDoor
open Go.RowKit

theorem format42i (w : World) : Calls Tryd.prog 99 #[.int .u64 42, .int .i64 10] w fun e w' => e = .returned (.string ⟨#[52, 50]⟩) ∧ w = w' := by
  have hd : Lib.decDigits 42 = [52, 50] := by decide +kernel
  have hs : ∀ w, Calls Tryd.prog 110 #[.int .i64 42] w fun e w' => e = .returned (.string ⟨#[52, 50]⟩) ∧ w = w' := fun w => (Tryd.internal_strconv_small 42 (by omega) w).mono fun e w' ⟨he, hw⟩ => ⟨by rw [he, hd], hw.symm⟩
  clear hd
  have HS := Lib.hid hs; clear hs
  go_enter Tryd.func99, Tryd.ntmps99
  go_wp2_with fail
  refine (HS.out _).mono ?_
  rintro e w' ⟨rfl, rfl⟩
  go_wp2
  go_ret
  exact ⟨rfl, rfl⟩
theorem format42 (w : World) : Calls Tryd.prog 86 #[.int .u64 42, .int .i64 10] w fun e w' => e = .returned (.string ⟨#[52, 50]⟩) ∧ w = w' := by
  go_enter Tryd.func86, Tryd.ntmps86
  go_wp2_with fail
  refine (format42i _).mono ?_
  rintro e w' ⟨rfl, rfl⟩
  go_wp2
  go_ret
  exact ⟨rfl, rfl⟩

theorem eq_zero4 (w : World) : (Op.equalIn 10000 24 (.agg #[.int .u64 0, .int .u64 0, .int .u64 0, .int .u64 0]) (.agg #[.int .u64 0, .int .u64 0, .int .u64 0, .int .u64 0])).run Tryd.prog w = .ok true w := eqW 0 0 0 0 0 0 0 0 w

set_option maxRecDepth 100000 in
set_option maxHeartbeats 2000000 in
theorem decimal42 (w : World) (hD : ∀ w, Calls Tryd.prog 74 #[.agg #[.int .u64 42, .int .u64 0, .int .u64 0, .int .u64 0, .int .u64 0, .int .u64 0, .int .u64 0, .int .u64 0], .agg #[.int .u64 10000000000000000000, .int .u64 0, .int .u64 0, .int .u64 0]] w fun e w' => e = .returned (.tuple #[.agg #[.int .u64 0, .int .u64 0, .int .u64 0, .int .u64 0, .int .u64 0, .int .u64 0, .int .u64 0, .int .u64 0], .agg #[.int .u64 42, .int .u64 0, .int .u64 0, .int .u64 0]]) ∧ Below w.heap.size w w') :
    Calls Tryd.prog 55 #[.agg #[.int .u64 42, .int .u64 0, .int .u64 0, .int .u64 0]] w fun e w' => e = .returned (.string ⟨#[52, 50]⟩) ∧ Below w.heap.size w w' := by
  have hW : ∀ w, Calls Tryd.prog 75 #[.agg #[.int .u64 42, .int .u64 0, .int .u64 0, .int .u64 0], .slice none 0 0] w fun e w' => e = .returned (.agg #[.int .u64 42, .int .u64 0, .int .u64 0, .int .u64 0, .int .u64 0, .int .u64 0, .int .u64 0, .int .u64 0]) ∧ Below w.heap.size w w' := fun w => widen_nil 42 0 0 0 w
  have hO : ∀ w, Calls Tryd.prog 57 #[.int .u64 10000000000000000000] w fun e w' => e = .returned (.agg #[.int .u64 10000000000000000000, .int .u64 0, .int .u64 0, .int .u64 0]) ∧ Below w.heap.size w w' := fun w => of_walk 10000000000000000000 w
  have hN : ∀ w, Calls Tryd.prog 66 #[.agg #[.int .u64 0, .int .u64 0, .int .u64 0, .int .u64 0, .int .u64 0, .int .u64 0, .int .u64 0, .int .u64 0]] w fun e w' => e = .returned (.agg #[.int .u64 0, .int .u64 0, .int .u64 0, .int .u64 0]) ∧ Below w.heap.size w w' := fun w => narrow_walk 0 0 0 0 0 0 0 0 w
  have HW := Lib.hid hW; clear hW
  have HO := Lib.hid hO; clear hO
  have HN := Lib.hid hN; clear hN
  have HD := Lib.hid hD; clear hD
  have hq := eq_zero4
  go_enter Tryd.func55, Tryd.ntmps55
  go_wp2
  refine wp_loop_rounds 1 ?_
  rw [rounds_succ]
  go_wp2_with fail
  refine (HW.out _).mono ?_
  rintro e w1 ⟨rfl, hb1⟩
  have b1 : Below w.heap.size w w1 := Below.trans (by go_grown) (hb1.mono (by simp))
  have c10 : w1.cell? ⟨w.heap.size, 0, none⟩ = some (.int .u64 42) := (hb1.cell (p := ⟨w.heap.size, 0, none⟩) (by simp)).trans (by go_cell)
  have c11 : w1.cell? ⟨w.heap.size, 1, none⟩ = some (.int .u64 0) := (hb1.cell (p := ⟨w.heap.size, 1, none⟩) (by simp)).trans (by go_cell)
  have c12 : w1.cell? ⟨w.heap.size, 2, none⟩ = some (.int .u64 0) := (hb1.cell (p := ⟨w.heap.size, 2, none⟩) (by simp)).trans (by go_cell)
  have c13 : w1.cell? ⟨w.heap.size, 3, none⟩ = some (.int .u64 0) := (hb1.cell (p := ⟨w.heap.size, 3, none⟩) (by simp)).trans (by go_cell)
  have f10 : w1.frozen? ⟨w.heap.size, 0, none⟩ = false := (hb1.frozen (p := ⟨w.heap.size, 0, none⟩) (by simp)).trans (by go_cell)
  have f11 : w1.frozen? ⟨w.heap.size, 1, none⟩ = false := (hb1.frozen (p := ⟨w.heap.size, 1, none⟩) (by simp)).trans (by go_cell)
  have f12 : w1.frozen? ⟨w.heap.size, 2, none⟩ = false := (hb1.frozen (p := ⟨w.heap.size, 2, none⟩) (by simp)).trans (by go_cell)
  have f13 : w1.frozen? ⟨w.heap.size, 3, none⟩ = false := (hb1.frozen (p := ⟨w.heap.size, 3, none⟩) (by simp)).trans (by go_cell)
  have z1 : w.heap.size < w1.heap.size := by have h := hb1.size; simp at h; omega
  clear hb1
  go_wp2_with fail
  refine (HO.out _).mono ?_
  rintro e w2 ⟨rfl, hb2⟩
  have b2 : Below w.heap.size w w2 := b1.trans (hb2.mono (by omega))
  have c20 := (hb2.cell (p := ⟨w.heap.size, 0, none⟩) z1).trans c10
  have c21 := (hb2.cell (p := ⟨w.heap.size, 1, none⟩) z1).trans c11
  have c22 := (hb2.cell (p := ⟨w.heap.size, 2, none⟩) z1).trans c12
  have c23 := (hb2.cell (p := ⟨w.heap.size, 3, none⟩) z1).trans c13
  have f20 := (hb2.frozen (p := ⟨w.heap.size, 0, none⟩) z1).trans f10
  have f21 := (hb2.frozen (p := ⟨w.heap.size, 1, none⟩) z1).trans f11
  have f22 := (hb2.frozen (p := ⟨w.heap.size, 2, none⟩) z1).trans f12
  have f23 := (hb2.frozen (p := ⟨w.heap.size, 3, none⟩) z1).trans f13
  have z2 := Nat.lt_of_lt_of_le z1 hb2.size
  clear hb2 b1 c10 c11 c12 c13 f10 f11 f12 f13 z1
  go_wp2_with fail
  refine (HD.out _).mono ?_
  rintro e w3 ⟨rfl, hb3⟩
  have b3 : Below w.heap.size w w3 := b2.trans (hb3.mono (by omega))
  have c30 := (hb3.cell (p := ⟨w.heap.size, 0, none⟩) z2).trans c20
  have c31 := (hb3.cell (p := ⟨w.heap.size, 1, none⟩) z2).trans c21
  have c32 := (hb3.cell (p := ⟨w.heap.size, 2, none⟩) z2).trans c22
  have c33 := (hb3.cell (p := ⟨w.heap.size, 3, none⟩) z2).trans c23
  have f30 := (hb3.frozen (p := ⟨w.heap.size, 0, none⟩) z2).trans f20
  have f31 := (hb3.frozen (p := ⟨w.heap.size, 1, none⟩) z2).trans f21
  have f32 := (hb3.frozen (p := ⟨w.heap.size, 2, none⟩) z2).trans f22
  have f33 := (hb3.frozen (p := ⟨w.heap.size, 3, none⟩) z2).trans f23
  have z3 := Nat.lt_of_lt_of_le z2 hb3.size
  clear hb3 b2 c20 c21 c22 c23 f20 f21 f22 f23 z2
  go_wp2_with fail
  refine (format42 _).mono ?_
  rintro e w' ⟨rfl, rfl⟩
  go_wp2_with fail
  refine (HN.out _).mono ?_
  rintro e w4 ⟨rfl, hb4⟩
  have b4 : Below w.heap.size w w4 := Below.trans (by go_grown) (hb4.mono (by simp; omega))
  have c40 : w4.cell? ⟨w.heap.size, 0, none⟩ = some (.int .u64 42) := (hb4.cell (p := ⟨w.heap.size, 0, none⟩) (by simp; omega)).trans (by go_cell)
  have c41 : w4.cell? ⟨w.heap.size, 1, none⟩ = some (.int .u64 0) := (hb4.cell (p := ⟨w.heap.size, 1, none⟩) (by simp; omega)).trans (by go_cell)
  have c42 : w4.cell? ⟨w.heap.size, 2, none⟩ = some (.int .u64 0) := (hb4.cell (p := ⟨w.heap.size, 2, none⟩) (by simp; omega)).trans (by go_cell)
  have c43 : w4.cell? ⟨w.heap.size, 3, none⟩ = some (.int .u64 0) := (hb4.cell (p := ⟨w.heap.size, 3, none⟩) (by simp; omega)).trans (by go_cell)
  have f40 : w4.frozen? ⟨w.heap.size, 0, none⟩ = false := (hb4.frozen (p := ⟨w.heap.size, 0, none⟩) (by simp; omega)).trans (by go_cell)
  have f41 : w4.frozen? ⟨w.heap.size, 1, none⟩ = false := (hb4.frozen (p := ⟨w.heap.size, 1, none⟩) (by simp; omega)).trans (by go_cell)
  have f42 : w4.frozen? ⟨w.heap.size, 2, none⟩ = false := (hb4.frozen (p := ⟨w.heap.size, 2, none⟩) (by simp; omega)).trans (by go_cell)
  have f43 : w4.frozen? ⟨w.heap.size, 3, none⟩ = false := (hb4.frozen (p := ⟨w.heap.size, 3, none⟩) (by simp; omega)).trans (by go_cell)
  clear hb4 b3 c30 c31 c32 c33 f30 f31 f32 f33
  go_wp2
  go_ret
  exact ⟨rfl, by go_grown⟩
end Go.Proofs.YthfadinocadhaaaDoor

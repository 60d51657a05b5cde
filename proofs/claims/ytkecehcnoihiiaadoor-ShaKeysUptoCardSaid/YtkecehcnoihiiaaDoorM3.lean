/- A region that draws its order, whose first operation yields one value in whatever world and may come up at any time, whose next ones read and call (each one value in every world of a class), ahead of a tail in one forced order: the first operation, one walk of the text's order, then the tail. Over any program. (With it, merged: Dg · Prod · Less · BFracN · BFrac332 · BFrac232 · STable · SSum · TailM.) -/
import Derived.Test.YtkecehcnoihiiaaDoorProg
import Derived.WalkKit
import Derived.WalkSpells
import Derived.WalkLawsBesides
import Derived.LoopN
import Derived.Handy
import Derived.Outline
import Derived.RegionTactic
import Derived.BigRegion
import Derived.BigQuiet
import Derived.WalkSmall
import Derived.OwnWalk
import Derived.Lib.Hide
import Derived.Laws.Rows
import Derived.Laws.Tables
import Derived.Laws.CopyOwn
import Derived.Maps.AppendAt
import Derived.Deep.LoopGhost
import Derived.Laws.Bits64b
import Derived.Laws.OwnMore
import Derived.Deep.AppendLies
import Derived.Test.YtkecehcnoihiiaaDoorM2
import Derived.Test.YtkecehcnoihiiaaDoorM1
namespace Go.Proofs.YtkecehcnoihiiaaDoor
open Go.RowKit

/-- The number of n digits of 16 bits. -/
def vd (d : Nat → Nat) : Nat → Nat
  | 0 => 0
  | n + 1 => vd d n + 65536 ^ n * d n
theorem vd_congr {d e : Nat → Nat} {n : Nat} (h : ∀ j, j < n → d j = e j) : vd d n = vd e n := by
  induction n with
  | zero => rfl
  | succ n ih => simp only [vd]; rw [ih (fun j hj => h j (by omega)), h n (by omega)]
theorem vd_lt {d : Nat → Nat} {n : Nat} (h : ∀ j, j < n → d j < 65536) : vd d n < 65536 ^ n := by
  induction n with
  | zero => simp [vd]
  | succ n ih =>
    have h1 := ih (fun j hj => h j (by omega))
    have h2 : 65536 ^ n * d n ≤ 65536 ^ n * 65535 := Nat.mul_le_mul_left _ (by have := h n (by omega); omega)
    simp only [vd]
    rw [Nat.pow_succ]
    omega
theorem vd_mod (X n : Nat) : vd (fun j => X / 65536 ^ j % 65536) n = X % 65536 ^ n := by
  induction n with
  | zero => simp [vd, Nat.mod_one]
  | succ n ih => simp only [vd]; rw [ih, Nat.pow_succ, Nat.mod_mul]
/-- Digits, and noughts behind them. -/
def pad (d : Nat → Nat) (n j : Nat) : Nat := if j < n then d j else 0
theorem vd_pad (d : Nat → Nat) (n k : Nat) (h : n ≤ k) : vd (pad d n) k = vd d n := by
  induction k with
  | zero =>
    obtain rfl : n = 0 := by omega
    rfl
  | succ k ih =>
    by_cases e : n = k + 1
    · subst e; exact vd_congr (fun j hj => by simp [pad, hj])
    · simp only [vd]
      rw [ih (by omega), show pad d n k = 0 by simp [pad]; omega]
      simp

/-- Digits as cells. -/
def dl (d : Nat → Nat) (n : Nat) : List Value := (List.range n).map fun j => .int .u64 (d j : Nat)
theorem dl_len (d : Nat → Nat) (n : Nat) : (dl d n).length = n := by simp [dl]
theorem dl_at (d : Nat → Nat) (n j : Nat) (h : j < n) : (dl d n)[j]? = some (.int .u64 (d j : Nat)) := by simp [dl, h]
/-- One digit more. -/
def upd (d : Nat → Nat) (k y j : Nat) : Nat := if j = k then y else d j
theorem dl_snoc (d : Nat → Nat) (k y : Nat) : dl d k ++ [.int .u64 (y : Nat)] = dl (upd d k y) (k + 1) := by
  unfold dl
  rw [List.range_succ, List.map_append]
  congr 1
  · apply List.map_congr_left
    intro j hj
    have : j < k := by simpa using hj
    simp [upd, show ¬ j = k by omega]
  · simp [upd]
theorem upd_lt {d : Nat → Nat} {k y : Nat} (h : ∀ j, j < k → d j < 65536) (hy : y < 65536) : ∀ j, j < k + 1 → upd d k y j < 65536 := fun j hj => by
  unfold upd
  by_cases e : j = k
  · simp [e, hy]
  · simp only [e, if_false]; exact h j (by omega)
theorem vd_upd (d : Nat → Nat) (k y : Nat) : vd (upd d k y) (k + 1) = vd d k + 65536 ^ k * y := by
  simp only [vd]
  rw [vd_congr (d := upd d k y) (e := d) (fun j hj => by simp [upd, show ¬ j = k by omega])]
  simp [upd]

/-- A slice of digits that lies in block b. -/
def Dg (w : World) (b n : Nat) (d : Nat → Nat) : Prop := b < w.heap.size ∧ ∀ j, j < n → w.cell? ⟨b, j, none⟩ = some (.int .u64 (d j : Nat))
theorem Dg.below {w w' : World} {b n : Nat} {d : Nat → Nat} (h : Dg w b n d) (hb : Below w.heap.size w w') : Dg w' b n d :=
  ⟨Nat.lt_of_lt_of_le h.1 hb.size, fun j hj => (hb.cell (p := ⟨b, j, none⟩) h.1).trans (h.2 j hj)⟩
/-- What a call that makes n digits leaves, their number V. -/
def MkDg (n V : Nat) (w : World) (e : Ending) (w' : World) : Prop :=
  ∃ (b cap : Nat) (d : Nat → Nat), e = .returned (.slice (some ⟨b, 0, none⟩) n cap) ∧ w.heap.size ≤ b ∧ Dg w' b n d ∧ (∀ j, j < n → d j < 65536) ∧ vd d n = V ∧ Below w.heap.size w w'

theorem info22 : (Tryd.prog.info? 47).map (fun i => (i.zero, i.size, i.bytes)) = some (some (.int .u64 0), 1, 8) := by kernel_rfl

/-- What a round that appends one digit leaves. -/
theorem push_rel {w wr w1 : World} {base : Nat} {v v' X : Value} {k y : Nat} {ns : Nat → Nat} (hown : wr.ownsRow base 47 1 v k (dl ns k)) (hb : Below base w wr) (hsz : base ≤ wr.heap.size)
    (hown' : w1.ownsRow base 47 1 v' (k + 1) (dl ns k ++ [.int .u64 (y : Nat)])) (hgrow : (wr.alloc (.cells #[X] 47)).grownBy w1 v.ownBlock) :
    w1.ownsRow base 47 1 v' (k + 1) (dl (upd ns k y) (k + 1)) ∧ Below base w w1 := by
  rw [dl_snoc] at hown'
  exact ⟨hown', (hb.alloc hsz _).grown hgrow (by simp; omega) (fun j hj => (hown.lt j hj).1)⟩

theorem made_of {w w' : World} {base : Nat} {v : Value} {n : Nat} {d : Nat → Nat} (hbs : w.heap.size ≤ base) (h : w'.ownsRow base 47 1 v n (dl d n)) (hn : 0 < n) (hd : ∀ j, j < n → d j < 65536) (hb : Below w.heap.size w w') : MkDg n (vd d n) w (.returned v) w' := by
  obtain ⟨hl, h1⟩ := h
  rcases h1 with ⟨-, h0⟩ | ⟨g, cap, cur, rfl, hg, hc, hnc, hm, hcs, ht⟩
  · omega
  · refine ⟨g, cap, d, rfl, Nat.le_trans hbs hg, ⟨(Array.getElem?_eq_some_iff.1 hc).1, fun j hj => ?_⟩, hd, rfl, hb⟩
    rw [cell_of_row _ _ _ _ _ _ hc, ← dl_at d n j hj, ← ht]
    simp only [Nat.mul_one, List.getElem?_take, hj, if_true]
    simp

theorem and_low16 (z : Nat) (h : z < 18446744073709551616) : bits .and .u64 z 65535 = ((z % 65536 : Nat) : Int) := by
  have := bits_and_u64_nat z 65535 h (by omega)
  rw [show z &&& 65535 = z % 65536 from Nat.and_two_pow_sub_one_eq_mod z 16] at this
  exact this
end Go.Proofs.YtkecehcnoihiiaaDoor
namespace Go.Proofs.YtkecehcnoihiiaaDoor
open Go.RowKit

/-- A block of L digits that may be written. -/
def OutAt (wr : World) (B L : Nat) (o : Nat → Nat) : Prop := B < wr.heap.size ∧ ∀ j, j < L → wr.cell? ⟨B, j, none⟩ = some (.int .u64 (o j : Nat)) ∧ wr.frozen? ⟨B, j, none⟩ = false
theorem OutAt.drewN {wr : World} {B L : Nat} {o : Nat → Nat} (h : OutAt wr B L o) (n : Nat) : OutAt (wr.drewN n) B L o := h
theorem OutAt.set {wr : World} {B L : Nat} {o : Nat → Nat} (h : OutAt wr B L o) (p y : Nat) (hp : p < L) : OutAt (wr.setCell ⟨B, p, none⟩ (.int .u64 (y : Nat))) B L (upd o p y) := by
  refine ⟨by simpa using h.1, fun j hj => ⟨?_, ?_⟩⟩
  · by_cases e : j = p
    · subst e
      rw [World.cell?_setCell_same _ _ _ (h.2 j hj).1]
      simp [upd]
    · rw [World.cell?_setCell_other _ _ _ _ (by intro e2; apply e; injection e2 with _ e3; exact e3.symm), (h.2 j hj).1]
      simp [upd, e]
  · rw [World.frozen?_setCell]; exact (h.2 j hj).2

/-- One digit in the place of another. -/
theorem vd_set (o : Nat → Nat) (p y : Nat) : ∀ L, p < L → vd (upd o p y) L + 65536 ^ p * o p = vd o L + 65536 ^ p * y
  | 0, h => by omega
  | L + 1, h => by
    simp only [vd]
    by_cases e : p = L
    · subst e
      rw [vd_congr (d := upd o p y) (e := o) (fun j hj => by simp [upd, show ¬ j = p by omega])]
      simp only [upd, if_true]
      omega
    · have := vd_set o p y L (by omega)
      rw [show upd o p y L = o L by simp [upd, show ¬ L = p by omega]]
      omega

/-- What the inner loop of Product keeps: the number of all digits, and what is carried. -/
def PRel (n m i j c : Nat) (da db o0 o : Nat → Nat) : Prop :=
  c < 65536 ∧ (∀ t, t < n + m → o t < 65536) ∧ (∀ t, i + m ≤ t → t < n + m → o t = 0) ∧ vd o (n + m) + 65536 ^ (i + j) * c = vd o0 (n + m) + 65536 ^ i * da i * vd db j
theorem prel_next {n m i j c x : Nat} {da db o0 o : Nat → Nat} (h : PRel n m i j c da db o0 o) (hi : i < n) (hj : j < m) (hx : x = o (i + j) + da i * db j + c) (ha : da i < 65536) (hb : db j < 65536) :
    PRel n m i (j + 1) (x / 65536) da db o0 (upd o (i + j) (x % 65536)) := by
  obtain ⟨hc, ho, hz, hv⟩ := h
  have hop := ho (i + j) (by omega)
  have hab : da i * db j ≤ 65535 * 65535 := Nat.mul_le_mul (by omega) (by omega)
  refine ⟨by omega, fun t ht => ?_, fun t h1 h2 => ?_, ?_⟩
  · unfold upd; split
    · omega
    · exact ho t ht
  · unfold upd; rw [if_neg (by omega)]; exact hz t h1 h2
  · have h1 := vd_set o (i + j) (x % 65536) (n + m) (by omega)
    have e : x = x % 65536 + 65536 * (x / 65536) := by omega
    have e1 : 65536 ^ (i + j) * x = 65536 ^ (i + j) * (x % 65536) + 65536 ^ (i + (j + 1)) * (x / 65536) := by
      rw [show i + (j + 1) = (i + j) + 1 by omega, Nat.pow_succ, Nat.mul_assoc, ← Nat.mul_add, ← e]
    have e2 : 65536 ^ (i + j) * x = 65536 ^ (i + j) * o (i + j) + 65536 ^ (i + j) * (da i * db j) + 65536 ^ (i + j) * c := by rw [hx, Nat.mul_add, Nat.mul_add]
    have e3 : 65536 ^ i * da i * vd db (j + 1) = 65536 ^ i * da i * vd db j + 65536 ^ (i + j) * (da i * db j) := by
      simp only [vd]
      rw [Nat.mul_add, Nat.pow_add]
      congr 1
      simp only [Nat.mul_assoc, Nat.mul_left_comm]
    rw [e3]
    omega
theorem prel_end {n m i c : Nat} {da db o0 o : Nat → Nat} (h : PRel n m i m c da db o0 o) (hi : i < n) (hv0 : vd o0 (n + m) = vd da i * vd db m) :
    (∀ t, t < n + m → upd o (i + m) c t < 65536) ∧ (∀ t, i + 1 + m ≤ t → t < n + m → upd o (i + m) c t = 0) ∧ vd (upd o (i + m) c) (n + m) = vd da (i + 1) * vd db m := by
  obtain ⟨hc, ho, hz, hv⟩ := h
  refine ⟨fun t ht => ?_, fun t h1 h2 => ?_, ?_⟩
  · unfold upd; split
    · exact hc
    · exact ho t ht
  · unfold upd; rw [if_neg (by omega)]; exact hz t (by omega) h2
  · have h1 := vd_set o (i + m) c (n + m) (by omega)
    rw [hz (i + m) (Nat.le_refl _) (by omega), Nat.mul_zero, Nat.add_zero] at h1
    rw [h1, hv, hv0]
    simp only [vd]
    rw [Nat.add_mul]

theorem madeCells_at (k j : Nat) (h : j < k) : (madeCells (Value.int .u64 0).cells (k * 1)).toList[j]? = some (.int .u64 ((0 : Nat) : Int)) := by
  simp [madeCells, Value.cells, h, Nat.mod_one]
theorem vd_nought (L : Nat) : vd (fun _ => 0) L = 0 := by
  induction L with
  | zero => rfl
  | succ L ih => simp [vd, ih]

set_option maxRecDepth 100000 in
set_option maxHeartbeats 4000000 in
theorem product_digits (ba ca bb cb n m : Nat) (da db : Nat → Nat) (hn : (n : Int) ≤ 1000000) (hm : (m : Int) ≤ 1000000) (ha : ∀ j, j < n → da j < 65536) (hb : ∀ j, j < m → db j < 65536) (w : World) (hA : Dg w ba n da) (hB : Dg w bb m db) :
    Calls Tryd.prog 28 #[.slice (some ⟨ba, 0, none⟩) n ca, .slice (some ⟨bb, 0, none⟩) m cb] w (MkDg (n + m) (vd da n * vd db m) w) := by
  have Ha := Lib.hid ha; clear ha
  have Hb := Lib.hid hb; clear hb
  have HA := Lib.hid hA; clear hA
  have HB := Lib.hid hB; clear hB
  have hn0 : (0 : Int) ≤ n := by omega
  have hm0 : (0 : Int) ≤ m := by omega
  obtain ⟨i0, hi, hz0, hz1, hz2⟩ := info_parts info22
  obtain ⟨L, hL⟩ : ∃ L : Nat, (n : Int) + (m : Int) = (L : Int) := ⟨n + m, by omega⟩
  have HL : Hid (n + m = L) := Lib.hid (by omega)
  have hLb : (L : Int) ≤ 2000000 := by omega
  go_enter Tryd.func28, Tryd.ntmps28
  go_wp2_with (at_make; refine wpList_make_full _ rfl _ _ 54 rfl w.heap.size 47 i0 (.int .u64 0) 1 Tryd.underlying54 hi hz0 hz1 .i64 .i64 _ _ L rfl rfl rfl rfl (by rw [hz2]; omega) (by unfold maxLen; omega) (Nat.le_refl _) ?_; intro w0 hown0 hgrow0)
  have hout : OutAt w0 w.heap.size L (fun _ => 0) := ⟨(hown0.lt _ rfl).2, fun j hj => ⟨(hown0.cellAt j (by omega)).trans (madeCells_at L j hj), hown0.frozenAt j⟩⟩
  have hbel : Below w.heap.size w w0 := (Below.refl _ _).grown hgrow0 (Nat.le_refl _) (fun k hk => by cases hk)
  have HW := Lib.hid (And.intro hout hbel)
  clear hout hbel hown0 hgrow0 hL
  go_wp2
  go_loopw [6] (fun iv wr => ∃ i : Nat, i ≤ n ∧ iv = .int .i64 i ∧ Hid (∃ o : Nat → Nat, OutAt wr w.heap.size L o ∧ Below w.heap.size w wr ∧ (∀ t, t < n + m → o t < 65536) ∧ (∀ t, i + m ≤ t → t < n + m → o t = 0) ∧ vd o (n + m) = vd da i * vd db m)) (fun iv _ => n - (intOf iv).toNat)
  case atStart => exact ⟨0, Nat.zero_le _, rfl, Lib.hid ⟨fun _ => 0, HW.out.1, HW.out.2, fun _ _ => (by show (0 : Nat) < 65536; omega), fun _ _ _ => rfl, by rw [vd_nought]; simp [vd]⟩⟩
  case round =>
    obtain ⟨i, hin, rfl, H⟩ := hrel
    have hi0 : (0 : Int) ≤ i := by omega
    have hi1 : (i : Int) ≤ 1000000 := by omega
    by_cases hlt : i < n
    · obtain ⟨o0, hO0, hB0, hd0, hz0', hv0⟩ := H.out
      have HV0 := Lib.hid hv0; clear hv0
      have HO0 := Lib.hid (And.intro hO0 (And.intro hB0 (And.intro hd0 hz0'))); clear hO0 hB0 hd0 hz0' H
      go_wp2
      go_loopw [7, 8] (fun cv jv wr2 => ∃ j c : Nat, j ≤ m ∧ jv = .int .i64 j ∧ cv = .int .u64 c ∧ Hid (∃ o : Nat → Nat, OutAt wr2 w.heap.size L o ∧ Below w.heap.size w wr2 ∧ PRel n m i j c da db o0 o)) (fun _ jv _ => m - (intOf jv).toNat)
      case atStart => exact ⟨0, 0, Nat.zero_le _, rfl, rfl, Lib.hid ⟨o0, HO0.out.1, HO0.out.2.1, by omega, HO0.out.2.2.1, HO0.out.2.2.2, by simp [vd]⟩⟩
      case round =>
        obtain ⟨j, c, hjm, rfl, rfl, H⟩ := hrel
        obtain ⟨o, hO, hBw, hP⟩ := H.out
        have hj0 : (0 : Int) ≤ j := by omega
        have hj1 : (j : Int) ≤ 1000000 := by omega
        have hc0 : (0 : Int) ≤ c := by omega
        have hc1 : (c : Int) < 65536 := by have := hP.1; omega
        by_cases hjl : j < m
        · obtain ⟨p, hp⟩ : ∃ p : Nat, (i : Int) + (j : Int) = (p : Int) := ⟨i + j, by omega⟩
          have HPI : Hid (i + j = p) := Lib.hid (by omega)
          have hp0 : (0 : Int) ≤ p := by omega
          have hpL : (p : Int) < (L : Int) := by have := HL.out; omega
          have hil : (i : Int) < (n : Int) := by omega
          have hjl' : (j : Int) < (m : Int) := by omega
          have co : wr.cell? ⟨w.heap.size, p, none⟩ = some (.int .u64 (o p : Nat)) := (hO.2 p (by omega)).1
          have fo : wr.frozen? ⟨w.heap.size, p, none⟩ = false := (hO.2 p (by omega)).2
          have cA : wr.cell? ⟨ba, i, none⟩ = some (.int .u64 (da i : Nat)) := (hBw.cell (p := ⟨ba, i, none⟩) HA.out.1).trans (HA.out.2 i hlt)
          have cB : wr.cell? ⟨bb, j, none⟩ = some (.int .u64 (db j : Nat)) := (hBw.cell (p := ⟨bb, j, none⟩) HB.out.1).trans (HB.out.2 j hjl)
          obtain ⟨q, hq⟩ : ∃ q : Nat, q = da i * db j := ⟨_, rfl⟩
          have hab : da i * db j ≤ 65535 * 65535 := Nat.mul_le_mul (by have := Ha.out i hlt; omega) (by have := Hb.out j hjl; omega)
          have hqb : q ≤ 4294836225 := by rw [hq]; exact hab
          have hqi : IntKind.u64.wrap (((da i : Nat) : Int) * ((db j : Nat) : Int)) = (q : Int) := by
            rw [IntKind.wrap_u64, hq]
            have e0 : ((da i : Nat) : Int) * ((db j : Nat) : Int) = ((da i * db j : Nat) : Int) := by simp
            rw [e0]; omega
          have hop : o p < 65536 := hP.2.1 p (by have := HL.out; omega)
          obtain ⟨x, hx⟩ : ∃ x : Nat, x = o p + q + c := ⟨_, rfl⟩
          have hxi : ((o p : Nat) : Int) + (q : Int) + (c : Int) = (x : Int) := by omega
          have hxb : x < 8589934592 := by omega
          have hand : bits .and .u64 (x : Int) 65535 = ((x % 65536 : Nat) : Int) := and_low16 x (by omega)
          have HN : Hid (PRel n m i (j + 1) (x / 65536) da db o0 (upd o p (x % 65536))) := Lib.hid (by
            have := prel_next (x := x) hP hlt hjl (by rw [HPI.out, hx, hq]) (Ha.out i hlt) (Hb.out j hjl)
            rwa [HPI.out] at this)
          have HAND := Lib.hid hand; clear hand
          have HOB := Lib.hid (And.intro hO hBw); clear hO hBw
          have HQ := Lib.hid hq; clear hq
          have HXX := Lib.hid hx; clear hx
          clear hP H hab
          have hq0 : (0 : Int) ≤ q := by omega
          have hq1 : (q : Int) ≤ 4294836225 := by omega
          have hx0 : (0 : Int) ≤ x := by omega
          have hx1 : (x : Int) < 8589934592 := by omega
          have ho0 : (0 : Int) ≤ (o p : Nat) := by omega
          have ho1 : ((o p : Nat) : Int) < 65536 := by omega
          clear hqb hxb hop
          go_wp2
          go_quiet (fail)
          go_wp2
          go_roundw
          case rel =>
            refine ⟨j + 1, x / 65536, by omega, by go_num, by go_num, Lib.hid ⟨upd o p (x % 65536), ?_, ?_, HN.out⟩⟩
            · rw [HAND.out]; exact (HOB.out.1.drewN nq).set p (x % 65536) (by omega)
            · exact (below_drewN HOB.out.2 nq).setCell (Nat.le_refl _) _
          case measure => simp [intOf]; omega
        · obtain rfl : j = m := by omega
          obtain ⟨p, hp⟩ : ∃ p : Nat, (i : Int) + (j : Int) = (p : Int) := ⟨i + j, by omega⟩
          have HPI : Hid (i + j = p) := Lib.hid (by omega)
          have hp0 : (0 : Int) ≤ p := by omega
          have hpL : (p : Int) < (L : Int) := by have := HL.out; omega
          have co : wr.cell? ⟨w.heap.size, p, none⟩ = some (.int .u64 (o p : Nat)) := (hO.2 p (by omega)).1
          have fo : wr.frozen? ⟨w.heap.size, p, none⟩ = false := (hO.2 p (by omega)).2
          have HN := Lib.hid (prel_end hP hlt HV0.out)
          have HOB := Lib.hid (And.intro hO hBw); clear hO hBw hP H
          go_wp2
          go_roundw
          case rel =>
            refine ⟨i + 1, by omega, by go_num, Lib.hid ⟨upd o p c, HOB.out.1.set p c (by omega), HOB.out.2.setCell (Nat.le_refl _) _, ?_, ?_, ?_⟩⟩
            · rw [← HPI.out]; exact HN.out.1
            · rw [← HPI.out]; exact HN.out.2.1
            · rw [← HPI.out]; exact HN.out.2.2
          case measure => simp [intOf]; omega
    · obtain rfl : i = n := by omega
      obtain ⟨o, hO, hBw, hd, -, hv⟩ := H.out
      go_wp2
      go_ret
      rw [HL.out] at hv hd ⊢
      exact ⟨w.heap.size, L, o, rfl, Nat.le_refl _, ⟨hO.1, fun j hj => (hO.2 j hj).1⟩, hd, hv, hBw⟩
end Go.Proofs.YtkecehcnoihiiaaDoor
namespace Go.Proofs.YtkecehcnoihiiaaDoor
open Go.RowKit

theorem vd_ge (d : Nat → Nat) (k : Nat) : 65536 ^ k * d k ≤ vd d (k + 1) := by simp only [vd]; omega
/-- The highest digit that parts two numbers decides. -/
theorem less_top {a b : Nat → Nat} {k : Nat} (ha : ∀ j, j < k → a j < 65536) (_hb : ∀ j, j < k → b j < 65536) (h : a k < b k) : vd a (k + 1) < vd b (k + 1) := by
  have h1 := vd_lt ha
  simp only [vd]
  have h2 : 65536 ^ k * a k + 65536 ^ k ≤ 65536 ^ k * b k := by
    have := Nat.mul_le_mul_left (65536 ^ k) (show a k + 1 ≤ b k by omega)
    rwa [Nat.mul_add, Nat.mul_one] at this
  omega
theorem vd_same_above {a b : Nat → Nat} (k : Nat) : ∀ N, k ≤ N → (∀ j, k ≤ j → j < N → a j = b j) → vd a N + vd b k = vd b N + vd a k := by
  intro N hN h
  induction N with
  | zero => obtain rfl : k = 0 := by omega
            rfl
  | succ N ih =>
    by_cases e : k = N + 1
    · subst e; omega
    · have := ih (by omega) (fun j h1 h2 => h j h1 (by omega))
      simp only [vd]
      rw [h N (by omega) (by omega)]
      omega

set_option maxRecDepth 100000 in
set_option maxHeartbeats 4000000 in
theorem less_any (ba ca bb cb n m : Nat) (da db : Nat → Nat) (hn : (n : Int) ≤ 1000000) (hm : (m : Int) ≤ 1000000) (ha : ∀ j, j < n → da j < 65536) (hb : ∀ j, j < m → db j < 65536) (w : World) (hA : Dg w ba n da) (hB : Dg w bb m db) :
    Calls Tryd.prog 29 #[.slice (some ⟨ba, 0, none⟩) n ca, .slice (some ⟨bb, 0, none⟩) m cb] w fun e w' => e = .returned (.bool (decide (vd da n < vd db m))) ∧ w = w' := by
  have en := vd_pad da n (max n m) (by omega)
  have em := vd_pad db m (max n m) (by omega)
  rw [← en, ← em]
  clear en em
  have Pa : Hid (∀ j, pad da n j < 65536) := Lib.hid (fun j => by unfold pad; split; exact ha j (by omega); omega)
  have Pb : Hid (∀ j, pad db m j < 65536) := Lib.hid (fun j => by unfold pad; split; exact hb j (by omega); omega)
  have Ha := Lib.hid ha; clear ha
  have Hb := Lib.hid hb; clear hb
  have HA := Lib.hid hA; clear hA
  have HB := Lib.hid hB; clear hB
  have hn0 : (0 : Int) ≤ n := by omega
  have hm0 : (0 : Int) ≤ m := by omega
  obtain ⟨R, hR⟩ : ∃ R, decide (vd (pad da n) (max n m) < vd (pad db m) (max n m)) = R := ⟨_, rfl⟩
  rw [hR]
  have HR := Lib.hid hR; clear hR
  by_cases hnm : n < m
  · have hcmp : (n : Int) < (m : Int) := by omega
    obtain ⟨N, hN⟩ : ∃ N, max n m = N := ⟨_, rfl⟩
    have HN := Lib.hid hN; clear hN
    go_enter Tryd.func29, Tryd.ntmps29
    go_wp2
    go_loop [6] (fun i => ∃ k : Nat, k ≤ N ∧ i = .int .i64 ((k : Int) - 1) ∧ Hid (∀ j, k ≤ j → j < N → pad da n j = pad db m j)) (fun i => (intOf i + 1).toNat)
    case atStart => exact ⟨N, Nat.le_refl _, by have := HN.out; first | (rw [show N = m by omega]) | rfl, Lib.hid (fun j h1 h2 => by omega)⟩
    case round =>
      obtain ⟨k, hk, rfl, HE⟩ := hrel
      have hNb : N ≤ 1000000 := by have := HN.out; omega
      have hk1 : (k : Int) ≤ 1000000 := by omega
      rcases k with _ | k
      · go_wp2
        go_ret
        refine ⟨?_, rfl⟩
        rw [← HR.out, HN.out]
        have h := vd_same_above 0 N (Nat.zero_le _) (fun j _ h2 => HE.out j (Nat.zero_le _) h2)
        simp only [vd] at h
        rw [show decide (vd (pad da n) N < vd (pad db m) N) = false by rw [decide_eq_false_iff_not]; omega]
        rfl
      · have e1 : ((k + 1 : Nat) : Int) - 1 = (k : Int) := by omega
        rw [e1]
        have hk0 : (0 : Int) ≤ k := by omega
        have hk2 : (k : Int) ≤ 1000000 := by omega
        have hge : ∀ (x y : Nat), pad da n k = x → pad db m k = y → x ≠ y → R = decide (x < y) := fun x y hx hy hne => by
          rw [← HR.out, HN.out]
          have h := vd_same_above (k + 1) N (by omega) (fun j h1 h2 => HE.out j h1 h2)
          by_cases hlt : x < y
          · have := less_top (a := pad da n) (b := pad db m) (k := k) (fun j _ => Pa.out j) (fun j _ => Pb.out j) (by rw [hx, hy]; exact hlt)
            rw [decide_eq_true hlt, decide_eq_true (by omega)]
          · have := less_top (a := pad db m) (b := pad da n) (k := k) (fun j _ => Pb.out j) (fun j _ => Pa.out j) (by rw [hx, hy]; omega)
            rw [decide_eq_false hlt, decide_eq_false (by omega)]
        have HG := Lib.hid hge; clear hge e1
        by_cases h1 : k < n
        · by_cases h2 : k < m
          · have xa : w.cell? ⟨ba, k, none⟩ = some (.int .u64 (da k : Nat)) := HA.out.2 k (by omega)
            have hka : (k : Int) < (n : Int) := by omega
            have pa : pad da n k = da k := by unfold pad; rw [if_pos (by omega)]
            have xb : w.cell? ⟨bb, k, none⟩ = some (.int .u64 (db k : Nat)) := HB.out.2 k (by omega)
            have hkb : (k : Int) < (m : Int) := by omega
            have pb : pad db m k = db k := by unfold pad; rw [if_pos (by omega)]
            have PA := Lib.hid pa; clear pa
            have PB := Lib.hid pb; clear pb
            by_cases he : da k = db k
            · have hb1 : (((da k : Nat) : Int) == ((db k : Nat) : Int)) = true := by simp; omega
              have hb2 : (((da k : Nat) : Int) != ((db k : Nat) : Int)) = false := by simp; omega
              have HE2 := Lib.hid he; clear he
              go_wp2
              go_round
              case rel =>
                refine ⟨k, by omega, rfl, Lib.hid (fun j h1 h2 => ?_)⟩
                by_cases hj : j = k
                · subst hj; rw [PA.out, PB.out, HE2.out]
                · exact HE.out j (by omega) h2
              case measure => simp [intOf]
            · have hb1 : (((da k : Nat) : Int) == ((db k : Nat) : Int)) = false := by simp; omega
              have hb2 : (((da k : Nat) : Int) != ((db k : Nat) : Int)) = true := by simp; omega
              have hr := HG.out _ _ PA.out PB.out he
              have HRR := Lib.hid hr; clear hr he
              go_wp2
              go_ret
              refine ⟨?_, rfl⟩
              rw [HRR.out]
              try simp
          · have xa : w.cell? ⟨ba, k, none⟩ = some (.int .u64 (da k : Nat)) := HA.out.2 k (by omega)
            have hka : (k : Int) < (n : Int) := by omega
            have pa : pad da n k = da k := by unfold pad; rw [if_pos (by omega)]
            have hkb : ¬ (k : Int) < (m : Int) := by omega
            have pb : pad db m k = 0 := by unfold pad; rw [if_neg (by omega)]
            have PA := Lib.hid pa; clear pa
            have PB := Lib.hid pb; clear pb
            by_cases he : da k = 0
            · have hb1 : (((da k : Nat) : Int) == (0 : Int)) = true := by simp; omega
              have hb2 : (((da k : Nat) : Int) != (0 : Int)) = false := by simp; omega
              have HE2 := Lib.hid he; clear he
              go_wp2
              go_round
              case rel =>
                refine ⟨k, by omega, rfl, Lib.hid (fun j h1 h2 => ?_)⟩
                by_cases hj : j = k
                · subst hj; rw [PA.out, PB.out, HE2.out]
                · exact HE.out j (by omega) h2
              case measure => simp [intOf]
            · have hb1 : (((da k : Nat) : Int) == (0 : Int)) = false := by simp; omega
              have hb2 : (((da k : Nat) : Int) != (0 : Int)) = true := by simp; omega
              have hr := HG.out _ _ PA.out PB.out he
              have HRR := Lib.hid hr; clear hr he
              go_wp2
              go_ret
              refine ⟨?_, rfl⟩
              rw [HRR.out]
              try simp
        · have h2 : k < m := by have := HN.out; omega
          have hka : ¬ (k : Int) < (n : Int) := by omega
          have pa : pad da n k = 0 := by unfold pad; rw [if_neg (by omega)]
          have xb : w.cell? ⟨bb, k, none⟩ = some (.int .u64 (db k : Nat)) := HB.out.2 k (by omega)
          have hkb : (k : Int) < (m : Int) := by omega
          have pb : pad db m k = db k := by unfold pad; rw [if_pos (by omega)]
          have PA := Lib.hid pa; clear pa
          have PB := Lib.hid pb; clear pb
          by_cases he : 0 = db k
          · have hb1 : ((0 : Int) == ((db k : Nat) : Int)) = true := by simp; omega
            have hb2 : ((0 : Int) != ((db k : Nat) : Int)) = false := by simp; omega
            have HE2 := Lib.hid he; clear he
            go_wp2
            go_round
            case rel =>
              refine ⟨k, by omega, rfl, Lib.hid (fun j h1 h2 => ?_)⟩
              by_cases hj : j = k
              · subst hj; rw [PA.out, PB.out, HE2.out]
              · exact HE.out j (by omega) h2
            case measure => simp [intOf]
          · have hb1 : ((0 : Int) == ((db k : Nat) : Int)) = false := by simp; omega
            have hb2 : ((0 : Int) != ((db k : Nat) : Int)) = true := by simp; omega
            have hr := HG.out _ _ PA.out PB.out he
            have HRR := Lib.hid hr; clear hr he
            go_wp2
            go_ret
            refine ⟨?_, rfl⟩
            rw [HRR.out]
            try simp
  · have hcmp : ¬ (n : Int) < (m : Int) := by omega
    obtain ⟨N, hN⟩ : ∃ N, max n m = N := ⟨_, rfl⟩
    have HN := Lib.hid hN; clear hN
    go_enter Tryd.func29, Tryd.ntmps29
    go_wp2
    go_loop [6] (fun i => ∃ k : Nat, k ≤ N ∧ i = .int .i64 ((k : Int) - 1) ∧ Hid (∀ j, k ≤ j → j < N → pad da n j = pad db m j)) (fun i => (intOf i + 1).toNat)
    case atStart => exact ⟨N, Nat.le_refl _, by have := HN.out; first | (rw [show N = n by omega]) | rfl, Lib.hid (fun j h1 h2 => by omega)⟩
    case round =>
      obtain ⟨k, hk, rfl, HE⟩ := hrel
      have hNb : N ≤ 1000000 := by have := HN.out; omega
      have hk1 : (k : Int) ≤ 1000000 := by omega
      rcases k with _ | k
      · go_wp2
        go_ret
        refine ⟨?_, rfl⟩
        rw [← HR.out, HN.out]
        have h := vd_same_above 0 N (Nat.zero_le _) (fun j _ h2 => HE.out j (Nat.zero_le _) h2)
        simp only [vd] at h
        rw [show decide (vd (pad da n) N < vd (pad db m) N) = false by rw [decide_eq_false_iff_not]; omega]
        rfl
      · have e1 : ((k + 1 : Nat) : Int) - 1 = (k : Int) := by omega
        rw [e1]
        have hk0 : (0 : Int) ≤ k := by omega
        have hk2 : (k : Int) ≤ 1000000 := by omega
        have hge : ∀ (x y : Nat), pad da n k = x → pad db m k = y → x ≠ y → R = decide (x < y) := fun x y hx hy hne => by
          rw [← HR.out, HN.out]
          have h := vd_same_above (k + 1) N (by omega) (fun j h1 h2 => HE.out j h1 h2)
          by_cases hlt : x < y
          · have := less_top (a := pad da n) (b := pad db m) (k := k) (fun j _ => Pa.out j) (fun j _ => Pb.out j) (by rw [hx, hy]; exact hlt)
            rw [decide_eq_true hlt, decide_eq_true (by omega)]
          · have := less_top (a := pad db m) (b := pad da n) (k := k) (fun j _ => Pb.out j) (fun j _ => Pa.out j) (by rw [hx, hy]; omega)
            rw [decide_eq_false hlt, decide_eq_false (by omega)]
        have HG := Lib.hid hge; clear hge e1
        by_cases h1 : k < n
        · by_cases h2 : k < m
          · have xa : w.cell? ⟨ba, k, none⟩ = some (.int .u64 (da k : Nat)) := HA.out.2 k (by omega)
            have hka : (k : Int) < (n : Int) := by omega
            have pa : pad da n k = da k := by unfold pad; rw [if_pos (by omega)]
            have xb : w.cell? ⟨bb, k, none⟩ = some (.int .u64 (db k : Nat)) := HB.out.2 k (by omega)
            have hkb : (k : Int) < (m : Int) := by omega
            have pb : pad db m k = db k := by unfold pad; rw [if_pos (by omega)]
            have PA := Lib.hid pa; clear pa
            have PB := Lib.hid pb; clear pb
            by_cases he : da k = db k
            · have hb1 : (((da k : Nat) : Int) == ((db k : Nat) : Int)) = true := by simp; omega
              have hb2 : (((da k : Nat) : Int) != ((db k : Nat) : Int)) = false := by simp; omega
              have HE2 := Lib.hid he; clear he
              go_wp2
              go_round
              case rel =>
                refine ⟨k, by omega, rfl, Lib.hid (fun j h1 h2 => ?_)⟩
                by_cases hj : j = k
                · subst hj; rw [PA.out, PB.out, HE2.out]
                · exact HE.out j (by omega) h2
              case measure => simp [intOf]
            · have hb1 : (((da k : Nat) : Int) == ((db k : Nat) : Int)) = false := by simp; omega
              have hb2 : (((da k : Nat) : Int) != ((db k : Nat) : Int)) = true := by simp; omega
              have hr := HG.out _ _ PA.out PB.out he
              have HRR := Lib.hid hr; clear hr he
              go_wp2
              go_ret
              refine ⟨?_, rfl⟩
              rw [HRR.out]
              try simp
          · have xa : w.cell? ⟨ba, k, none⟩ = some (.int .u64 (da k : Nat)) := HA.out.2 k (by omega)
            have hka : (k : Int) < (n : Int) := by omega
            have pa : pad da n k = da k := by unfold pad; rw [if_pos (by omega)]
            have hkb : ¬ (k : Int) < (m : Int) := by omega
            have pb : pad db m k = 0 := by unfold pad; rw [if_neg (by omega)]
            have PA := Lib.hid pa; clear pa
            have PB := Lib.hid pb; clear pb
            by_cases he : da k = 0
            · have hb1 : (((da k : Nat) : Int) == (0 : Int)) = true := by simp; omega
              have hb2 : (((da k : Nat) : Int) != (0 : Int)) = false := by simp; omega
              have HE2 := Lib.hid he; clear he
              go_wp2
              go_round
              case rel =>
                refine ⟨k, by omega, rfl, Lib.hid (fun j h1 h2 => ?_)⟩
                by_cases hj : j = k
                · subst hj; rw [PA.out, PB.out, HE2.out]
                · exact HE.out j (by omega) h2
              case measure => simp [intOf]
            · have hb1 : (((da k : Nat) : Int) == (0 : Int)) = false := by simp; omega
              have hb2 : (((da k : Nat) : Int) != (0 : Int)) = true := by simp; omega
              have hr := HG.out _ _ PA.out PB.out he
              have HRR := Lib.hid hr; clear hr he
              go_wp2
              go_ret
              refine ⟨?_, rfl⟩
              rw [HRR.out]
              try simp
        · have h2 : k < m := by have := HN.out; omega
          have hka : ¬ (k : Int) < (n : Int) := by omega
          have pa : pad da n k = 0 := by unfold pad; rw [if_neg (by omega)]
          have xb : w.cell? ⟨bb, k, none⟩ = some (.int .u64 (db k : Nat)) := HB.out.2 k (by omega)
          have hkb : (k : Int) < (m : Int) := by omega
          have pb : pad db m k = db k := by unfold pad; rw [if_pos (by omega)]
          have PA := Lib.hid pa; clear pa
          have PB := Lib.hid pb; clear pb
          by_cases he : 0 = db k
          · have hb1 : ((0 : Int) == ((db k : Nat) : Int)) = true := by simp; omega
            have hb2 : ((0 : Int) != ((db k : Nat) : Int)) = false := by simp; omega
            have HE2 := Lib.hid he; clear he
            go_wp2
            go_round
            case rel =>
              refine ⟨k, by omega, rfl, Lib.hid (fun j h1 h2 => ?_)⟩
              by_cases hj : j = k
              · subst hj; rw [PA.out, PB.out, HE2.out]
              · exact HE.out j (by omega) h2
            case measure => simp [intOf]
          · have hb1 : ((0 : Int) == ((db k : Nat) : Int)) = false := by simp; omega
            have hb2 : ((0 : Int) != ((db k : Nat) : Int)) = true := by simp; omega
            have hr := HG.out _ _ PA.out PB.out he
            have HRR := Lib.hid hr; clear hr he
            go_wp2
            go_ret
            refine ⟨?_, rfl⟩
            rw [HRR.out]
            try simp
end Go.Proofs.YtkecehcnoihiiaaDoor
namespace Go.Proofs.YtkecehcnoihiiaaDoor
open Go.RowKit

/-- What is found of a root, bit by bit: so many bits are left. -/
def frs (goal r : Nat) : Nat → Nat → Nat
  | 0, X => X
  | n + 1, X => frs goal r n (if (X + 2 ^ n) ^ r ≤ goal then X + 2 ^ n else X)
def frn (p root bits : Nat) : Nat := frs (p * 2 ^ (root * bits)) root (bits + 5) 0
theorem or_bit (a s : Nat) (h : 2 ^ (s + 1) ∣ a) : a ||| 2 ^ s = a + 2 ^ s := by
  obtain ⟨q, rfl⟩ := h
  have := Nat.two_pow_add_eq_or_of_lt (b := 2 ^ s) (i := s + 1) (by rw [Nat.pow_succ]; have := Nat.two_pow_pos s; omega) q
  omega
theorem or_low16 (n d : Nat) (h : d < 65536) : n * 65536 ||| d = n * 65536 + d := by
  have := Nat.two_pow_add_eq_or_of_lt (b := d) (i := 16) (by omega) n
  rw [show 2 ^ 16 * n = n * 65536 by omega] at this
  omega
theorem vd_low {d : Nat → Nat} (j : Nat) : ∀ n, j ≤ n → ∃ q, vd d n = vd d j + 65536 ^ j * q := by
  intro n
  induction n with
  | zero => intro h; obtain rfl : j = 0 := by omega
            exact ⟨0, by simp⟩
  | succ n ih =>
    intro h
    by_cases e : j = n + 1
    · subst e; exact ⟨0, by simp⟩
    · obtain ⟨q, hq⟩ := ih (by omega)
      refine ⟨q + 65536 ^ (n - j) * d n, ?_⟩
      simp only [vd]
      rw [hq, Nat.mul_add, ← Nat.mul_assoc, ← Nat.pow_add, show j + (n - j) = n by omega, Nat.add_assoc]
theorem pow16 (k : Nat) : (65536 : Nat) ^ k = 2 ^ (16 * k) := by rw [show (65536 : Nat) = 2 ^ 16 by rfl, ← Nat.pow_mul]
theorem digit_dvd {d : Nat → Nat} {B j s : Nat} (hj : j < B) (hs : s ≤ 16) (hd : ∀ i, i < B → d i < 65536) (h : 2 ^ (16 * j + s) ∣ vd d B) : 2 ^ s ∣ d j := by
  obtain ⟨q, hq⟩ := vd_low (d := d) (j + 1) B hj
  have hlow : vd d j < 65536 ^ j := vd_lt fun i hi => hd i (by omega)
  simp only [vd] at hq
  have h16 : 2 ^ (16 * j + s) ∣ 65536 ^ (j + 1) * q := by
    refine Nat.dvd_trans ?_ (Nat.dvd_mul_right _ _)
    rw [pow16]
    exact Nat.pow_dvd_pow 2 (by omega)
  rw [hq] at h
  have h3 := (Nat.dvd_add_left h16).1 h
  have h4 : 65536 ^ j ∣ vd d j + 65536 ^ j * d j := Nat.dvd_trans (by rw [pow16]; exact Nat.pow_dvd_pow 2 (by omega)) h3
  have h5 : 65536 ^ j ∣ vd d j := (Nat.dvd_add_left (Nat.dvd_mul_right _ _)).1 h4
  have h6 : vd d j = 0 := Nat.eq_zero_of_dvd_of_lt h5 hlow
  rw [h6, Nat.zero_add, Nat.pow_add, ← pow16] at h3
  exact Nat.dvd_of_mul_dvd_mul_left (Nat.pow_pos (by omega)) h3
/-- A digit is what the number says. -/
theorem vd_digit {d : Nat → Nat} {B j : Nat} (hj : j < B) (hd : ∀ i, i < B → d i < 65536) : vd d B / 65536 ^ j % 65536 = d j := by
  obtain ⟨q, hq⟩ := vd_low (d := d) (j + 1) B hj
  have hlow : vd d j < 65536 ^ j := vd_lt fun i hi => hd i (by omega)
  have hdj := hd j hj
  simp only [vd] at hq
  rw [hq, Nat.pow_succ, show vd d j + 65536 ^ j * d j + 65536 ^ j * 65536 * q = vd d j + 65536 ^ j * (d j + 65536 * q) by rw [Nat.mul_add, Nat.mul_assoc, Nat.add_assoc], Nat.add_mul_div_left _ _ (Nat.pow_pos (by omega)), Nat.div_eq_of_lt hlow]
  omega
theorem low_next {X b j : Nat} (hj : j < b) : X % 65536 ^ b / 65536 ^ j = X % 65536 ^ b / 65536 ^ (j + 1) * 65536 + X / 65536 ^ j % 65536 := by
  have e : X % 65536 ^ b / 65536 ^ j % 65536 = X / 65536 ^ j % 65536 := by
    have e1 : (65536 : Nat) ^ b = 65536 ^ j * 65536 ^ (b - j) := by rw [← Nat.pow_add, show j + (b - j) = b by omega]
    rw [e1, Nat.mod_mul_right_div_self]
    refine Nat.mod_mod_of_dvd _ ?_
    obtain ⟨t, ht⟩ : ∃ t, b - j = t + 1 := ⟨b - j - 1, by omega⟩
    rw [ht, Nat.pow_succ]
    exact Nat.dvd_mul_left _ _
  rw [Nat.pow_succ, ← Nat.div_div_eq_div_mul, ← e]
  omega
/-- A bit more in a digit. -/
theorem vd_bit {d : Nat → Nat} {B p s : Nat} (hp : p < B) : vd (upd d p (d p + 2 ^ s)) B = vd d B + 2 ^ (16 * p + s) := by
  have h := vd_set d p (d p + 2 ^ s) B hp
  rw [Nat.mul_add, pow16, ← Nat.pow_add] at h
  omega
/-- Digits of the goal. -/
def gdg (p k j : Nat) : Nat := if j = k then p else 0
theorem vd_gdg (p k : Nat) : vd (gdg p k) (k + 1) = p * 65536 ^ k := by
  simp only [vd]
  rw [vd_congr (d := gdg p k) (e := fun _ => 0) (fun j hj => by simp [gdg, show ¬ j = k by omega]), vd_nought]
  simp [gdg, Nat.mul_comm]
theorem dl_pre (p k : Nat) : Value.int .u64 0 :: dl (gdg p k) (k + 1) = dl (gdg p (k + 1)) (1 + (k + 1)) := by
  unfold dl
  rw [Nat.add_comm 1 (k + 1), List.range_succ_eq_map (n := k + 1), List.map_cons, List.map_map]
  have e : gdg p (k + 1) 0 = 0 := by simp [gdg]
  rw [e]
  show Value.int .u64 0 :: _ = Value.int .u64 0 :: _
  congr 1
  apply List.map_congr_left
  intro j hj
  simp [gdg]
theorem fown_one (w : World) : (w.alloc (.cells #[.int .u64 0] 47)).ownsRow w.heap.size 47 1 (.slice (some ⟨w.heap.size, 0, none⟩) 1 1) 1 [.int .u64 0] :=
  ⟨by simp, .inr ⟨w.heap.size, 1, #[.int .u64 0], rfl, Nat.le_refl _, heap_alloc_new _ _, Nat.le_refl _, by unfold maxLen; omega, by simp, by simp⟩⟩
theorem fown_dg {w : World} {base k : Nat} {v : Value} {d : Nat → Nat} (h : w.ownsRow base 47 1 v k (dl d k)) (hk : 0 < k) : ∃ g cap, v = .slice (some ⟨g, 0, none⟩) k cap ∧ base ≤ g ∧ k ≤ cap ∧ Dg w g k d ∧ OutAt w g k d := by
  have h0 := h
  obtain ⟨-, h1⟩ := h
  rcases h1 with ⟨-, h0⟩ | ⟨g, cap, cur, rfl, hg, hc, hnc, hm, hcs, ht⟩
  · omega
  · have h2 : Dg w g k d := ⟨(Array.getElem?_eq_some_iff.1 hc).1, fun j hj => by
      rw [cell_of_row _ _ _ _ _ _ hc, ← dl_at d k j hj, ← ht]
      simp only [Nat.mul_one, List.getElem?_take, hj, if_true]
      simp⟩
    exact ⟨g, cap, rfl, hg, hnc, h2, h2.1, fun j hj => ⟨h2.2 j hj, h0.frozenAt j⟩⟩
theorem fnews_dl {w : World} {g nr : Nat} {dr : Nat → Nat} (h : Dg w g nr dr) : ∀ j u, (dl dr nr)[j]? = some u → w.cell? ((⟨g, 0, none⟩ : Addr).add j) = some u := fun j u hj => by
  have hj2 : j < nr := by
    have := (List.getElem?_eq_some_iff.1 hj).1
    rwa [dl_len] at this
  rw [dl_at _ _ _ hj2] at hj
  cases hj
  have h := h.2 j hj2
  cases j with
  | zero => simpa [Addr.add] using h
  | succ j => simpa [Addr.add] using h
theorem fone_dl (dr : Nat → Nat) (nr : Nat) : ∀ u ∈ dl dr nr, u.oneCell' = true := fun u hu => by
  unfold dl at hu
  rw [List.mem_map] at hu
  obtain ⟨j, -, rfl⟩ := hu
  rfl
/-- What lies while a root is looked for. -/
structure FrR (w : World) (GL G B g n goal r F : Nat) (p : Nat) (d : Nat → Nat) (wx : World) : Prop where
  old : Below w.heap.size w wx
  gl : Dg wx GL (G + 1) (gdg p G)
  hGL : w.heap.size ≤ GL
  x : Dg wx g B d
  hg : w.heap.size ≤ g
  dlt : ∀ j, j < B → d j < 65536
  dvd : 2 ^ n ∣ vd d B
  left : frs goal r n (vd d B) = F
theorem FrR.below {w wx w' : World} {GL G B g n goal r F p : Nat} {d : Nat → Nat} (h : FrR w GL G B g n goal r F p d wx) (hb : Below wx.heap.size wx w') : FrR w GL G B g n goal r F p d w' :=
  ⟨h.old.trans (hb.mono h.old.size), h.gl.below hb, h.hGL, h.x.below hb, h.hg, h.dlt, h.dvd, h.left⟩
/-- Nothing is taken. -/
theorem FrR.stay {w wx w' : World} {GL G B g n goal r F p : Nat} {d : Nat → Nat} (h : FrR w GL G B g (n + 1) goal r F p d wx) (hb : Below wx.heap.size wx w') (hc : ¬ (vd d B + 2 ^ n) ^ r ≤ goal) : FrR w GL G B g n goal r F p d w' := by
  have h2 := h.below hb
  refine ⟨h2.old, h2.gl, h2.hGL, h2.x, h2.hg, h2.dlt, Nat.dvd_trans (Nat.pow_dvd_pow 2 (by omega)) h2.dvd, ?_⟩
  have := h2.left
  rw [frs, if_neg hc] at this
  exact this
/-- The bit is taken. -/
theorem FrR.take {w wx w' : World} {GL G B g g' n goal r F p : Nat} {d e : Nat → Nat} (h : FrR w GL G B g (n + 1) goal r F p d wx) (hb : Below wx.heap.size wx w') (hD : Dg w' g' B e) (hg' : w.heap.size ≤ g') (he : ∀ j, j < B → e j < 65536) (hv : vd e B = vd d B + 2 ^ n) (hc : (vd d B + 2 ^ n) ^ r ≤ goal) : FrR w GL G B g' n goal r F p e w' := by
  have h2 := h.below hb
  refine ⟨h2.old, h2.gl, h2.hGL, hD, hg', he, ?_, ?_⟩
  · rw [hv]
    exact Nat.dvd_add (Nat.dvd_trans (Nat.pow_dvd_pow 2 (by omega)) h2.dvd) (Nat.dvd_refl _)
  · have := h2.left
    rw [frs, if_pos hc] at this
    rw [hv]
    exact this
end Go.Proofs.YtkecehcnoihiiaaDoor
namespace Go.Proofs.YtkecehcnoihiiaaDoor
open Go.RowKit

set_option maxRecDepth 100000 in
set_option maxHeartbeats 4000000 in
-- WHAT Fraction COMES TO.
theorem frac_3_32 (p : Nat) (hp : p < 65536) (w : World) : Calls Tryd.prog 23 #[.int .u64 p, .int .i64 3, .int .i64 32] w fun e w' => e = .returned (.int .u64 ((frn p 3 32 % 65536 ^ 2 : Nat) : Int)) ∧ Below w.heap.size w w' := by
  obtain ⟨i0, hi, hz0, hz1, hz2⟩ := info_partsU info22
  have hG0 : p * 2 ^ (3 * 32) = vd (gdg p 6) (6 + 1) := by rw [vd_gdg]
  obtain ⟨F, hF⟩ : ∃ F, frn p 3 32 = F := ⟨_, rfl⟩
  have HF := Lib.hid hF
  rw [hF]
  clear hF
  obtain ⟨GN, hGN⟩ : ∃ GN, p * 2 ^ (3 * 32) = GN := ⟨_, rfl⟩
  have HG := Lib.hid (And.intro hG0 hGN)
  have HP := Lib.hid hp
  clear hG0 hGN hp
  go_enter Tryd.func23, Tryd.ntmps23
  go_wp2_with fail
  go_loopw [7, 8] (fun gv iv wr => ∃ k g c L : Nat, k ≤ 6 ∧ L = k + 1 ∧ iv = .int .i64 k ∧ gv = .slice (some ⟨g, 0, none⟩) L c ∧ Hid (w.heap.size ≤ g ∧ Dg wr g L (gdg p k) ∧ Below w.heap.size w wr)) (fun _ iv _ => 6 - (intOf iv).toNat)
  case atStart => exact ⟨0, _, _, 1, by omega, rfl, rfl, rfl, Lib.hid ⟨Nat.le_refl _, ⟨by simp, fun j hj => by obtain rfl : j = 0 := (by omega); exact (cell_of_row _ _ 0 _ _ _ (heap_alloc_new _ _)).trans rfl⟩, by go_grown⟩⟩
  case round =>
    obtain ⟨k, g, c, L, hk, rfl, rfl, rfl, H⟩ := hrel
    have hk0 : (0 : Int) ≤ k := by omega
    by_cases hlt : k < 6
    · have hlt' : (k : Int) < 6 := by omega
      have HEN := Lib.hid (fown_one wr)
      go_wp2_with (at_builtin; refine wpList_append_own _ rfl _ _ 54 rfl wr.heap.size 47 i0 (.int .u64 0) 1 8 Tryd.underlying54 hi hz0 hz1 hz2 rfl (by decide) _ _ _ rfl HEN.out ⟨g, 0, none⟩ (k + 1) c (dl (gdg p k) (k + 1)) rfl (by rw [dl_len, Nat.mul_one]) ?d1 ?d2 ?d3 ?d4 ?d5 ?_)
      try (case d1 => exact fnews_dl (H.out.2.1.below ((Below.refl wr.heap.size wr).alloc (Nat.le_refl _) (.cells #[.int .u64 0] 47))))
      try (case d2 => exact fone_dl _ _)
      try (case d3 => unfold maxLen; omega)
      try (case d4 => omega)
      try (case d5 => first | omega | (simp; done) | (simp; omega))
      intro v' w1 hown' hgrow _
      rw [dl_pre p k] at hown'
      obtain ⟨g', cap', rfl, hg', hcap', hdg', -⟩ := fown_dg hown' (by omega)
      have hbw : Below wr.heap.size wr w1 := ((Below.refl _ _).alloc (Nat.le_refl _) _).grown hgrow (by simp) (fun j hj => by cases hj; exact Nat.le_refl _)
      have hwr := H.out.2.2.size
      have HN := Lib.hid (And.intro (Nat.le_trans hwr hg') (And.intro hdg' (H.out.2.2.trans (hbw.mono hwr))))
      clear hown' hgrow hg' hdg' hbw HEN hwr
      go_wp2_with fail
      go_roundw
      case rel => exact ⟨k + 1, g', cap', 1 + (k + 1), by omega, by omega, by go_num, rfl, HN⟩
      case measure => simp [intOf]; omega
    · obtain rfl : k = 6 := by omega
      have hlt' : ¬ ((6 : Nat) : Int) < 6 := by omega
      clear hlt hlt' hk0
      go_wp2_with (at_make; refine wpList_make_full _ rfl _ _ 54 rfl w.heap.size 47 i0 (.int .u64 0) 1 Tryd.underlying54 hi hz0 hz1 .i64 .i64 _ _ 3 rfl rfl rfl rfl (by rw [hz2]; omega) (by unfold maxLen; omega) (H.out.2.2.size) ?_; intro w0 hown0 hgrow0)
      have hbel : Below wr.heap.size wr w0 := (Below.refl _ _).grown hgrow0 (Nat.le_refl _) (fun k hk => by cases hk)
      have hb0 : Below w.heap.size w w0 := H.out.2.2.trans (hbel.mono H.out.2.2.size)
      have hown1 : w0.ownsRow w.heap.size 47 1 (.slice (some ⟨wr.heap.size, 0, none⟩) 3 3) 3 (dl (fun _ => 0) 3) := by
        have h9 := hown0
        simp at h9
        have e : (madeCells (Value.int IntKind.u64 0).cells 3).toList = dl (fun _ => 0) 3 := by kernel_rfl
        rw [e] at h9
        exact h9
      obtain ⟨g0, c0, e0, hg0, -, hdg0, -⟩ := fown_dg hown1 (by omega)
      have h3 : wr.heap.size = g0 := congrArg Addr.block (Option.some.inj (Value.slice.inj e0).1)
      subst h3
      have HX := Lib.hid (show FrR w g 6 3 wr.heap.size 37 GN 3 F p (fun _ => 0) w0 from ⟨hb0, H.out.2.1.below hbel, H.out.1, hdg0, hg0, fun _ _ => by show 0 < 65536; omega, by rw [vd_nought]; exact Nat.dvd_zero _, by rw [vd_nought, ← HF.out, ← HG.out.2]; rfl⟩)
      clear hbel hb0 hown1 hown0 hgrow0 hdg0 hg0 e0 H
      go_wp2_with fail
      go_loopw [9, 10] (fun xv iv wr => ∃ (z : Int) (n g2 c2 : Nat) (d : Nat → Nat), n ≤ 37 ∧ z = (n : Int) - 1 ∧ iv = .int .i64 z ∧ xv = .slice (some ⟨g2, 0, none⟩) 3 c2 ∧ Hid (FrR w g 6 3 g2 n GN 3 F p d wr)) (fun _ iv _ => (intOf iv + 1).toNat)
      case atStart => exact ⟨36, 37, _, _, _, by omega, by omega, rfl, rfl, HX⟩
      case round =>
        obtain ⟨z, n, g2, c2, d, hn, hz, rfl, rfl, H⟩ := hrel
        clear HX
        cases n with
        | succ i =>
          obtain rfl : z = (i : Int) := by omega
          have hi0 : (0 : Int) ≤ i := by omega
          have hi1 : (i : Int) < 37 := by omega
          clear hz
          obtain ⟨q, hq⟩ : ∃ q : Nat, (i : Int) / 16 = (q : Int) := ⟨i / 16, by omega⟩
          obtain ⟨s, hs⟩ : ∃ s : Nat, (i : Int) % 16 = (s : Int) := ⟨i % 16, by omega⟩
          have hq0 : (0 : Int) ≤ q := by omega
          have hq1 : (q : Int) < 3 := by omega
          have hs0 : (0 : Int) ≤ s := by omega
          have hs1 : (s : Int) < 16 := by omega
          have HIQ := Lib.hid (show i = 16 * q + s by omega)
          have hmake := World.ownsRow_made (base := wr.heap.size) (e := 47) (size := 1) wr #[] 0 (by simp) (by decide) (by simp)
          go_wp2_with (at_builtin; refine wpList_append_own _ rfl _ _ 54 rfl wr.heap.size 47 i0 (.int .u64 0) 1 8 Tryd.underlying54 hi hz0 hz1 hz2 rfl (by decide) _ _ _ rfl hmake ⟨g2, 0, none⟩ 3 c2 (dl d 3) rfl (by rw [dl_len, Nat.mul_one]) ?d1 ?d2 ?d3 ?d4 ?d5 ?_)
          try (case d1 => exact fnews_dl (H.out.x.below ((Below.refl wr.heap.size wr).alloc (Nat.le_refl _) _)))
          try (case d2 => exact fone_dl _ _)
          try (case d3 => unfold maxLen; omega)
          try (case d4 => omega)
          try (case d5 => first | omega | (simp; done) | (simp; omega))
          intro v' w1 hown' hgrow _
          have hown2 : w1.ownsRow wr.heap.size 47 1 v' 3 (dl d 3) := by simpa using hown'
          obtain ⟨g', cap', rfl, hg', hcap', hdg', hout'⟩ := fown_dg hown2 (by omega)
          have hbw : Below wr.heap.size wr w1 := ((Below.refl _ _).alloc (Nat.le_refl _) _).grown hgrow (by simp) (fun j hj => by cases hj; exact Nat.le_refl _)
          have co : w1.cell? ⟨g', q, none⟩ = some (.int .u64 (d q : Nat)) := hdg'.2 q (by omega)
          have fo : w1.frozen? ⟨g', q, none⟩ = false := (hout'.2 q (by omega)).2
          obtain ⟨y, hy⟩ : ∃ y : Nat, 2 ^ s = y := ⟨_, rfl⟩
          have hyl : y < 65536 := by rw [← hy, show (65536 : Nat) = 2 ^ 16 by rfl]; exact Nat.pow_lt_pow_right (by omega) (by omega)
          have hpw : IntKind.u64.wrap ((2 : Int) ^ s) = (y : Int) := by
            have e0 : ((2 ^ s : Nat) : Int) = (2 : Int) ^ s := by simp
            rw [← e0, hy, IntKind.wrap_u64]; omega
          have hdq := H.out.dlt q (by omega)
          have horn : d q ||| y = d q + y := by
            rw [← hy]
            refine or_bit (d q) s (digit_dvd (d := d) (B := 3) (j := q) (by omega) (by omega) H.out.dlt ?_)
            rw [← Nat.add_assoc, ← HIQ.out]
            exact H.out.dvd
          have hsum : d q + y < 65536 := by
            rw [← horn]
            exact Nat.or_lt_two_pow (n := 16) hdq hyl
          have hor : bits .or .u64 ((d q : Nat) : Int) (y : Int) = ((d q + y : Nat) : Int) := by
            rw [bits_or_u64_nat _ _ (by omega) (by omega), horn]
          have hvb : vd (upd d q (d q + y)) 3 = vd d 3 + 2 ^ i := by rw [← hy, vd_bit (by omega), ← HIQ.out]
          obtain ⟨e, he⟩ : ∃ e, upd d q (d q + y) = e := ⟨_, rfl⟩
          have hel : ∀ j, j < 3 → e j < 65536 := fun j hj => by
            rw [← he]
            unfold upd
            split
            · exact hsum
            · exact H.out.dlt j hj
          have hset : Dg (w1.setCell ⟨g', q, none⟩ (.int .u64 ((d q + y : Nat) : Int))) g' 3 e := by
            have h9 := hout'.set q (d q + y) (by omega)
            rw [he] at h9
            exact ⟨h9.1, fun j hj => (h9.2 j hj).1⟩
          rw [he] at hvb
          have HE := Lib.hid (And.intro hg' (And.intro hset (And.intro hel (And.intro hvb (hbw.setCell (p := ⟨g', q, none⟩) hg' (.int .u64 ((d q + y : Nat) : Int)))))))
          have HOR := Lib.hid hor
          clear hown' hown2 hgrow hdg' hout' hbw hy hyl hdq horn hsum hor hvb he hel hset hmake hg'
          go_wp2_with fail
          rw [HOR.out]
          refine (product_digits g' cap' g' cap' 3 3 e e (by omega) (by omega) HE.out.2.2.1 HE.out.2.2.1 _ HE.out.2.1 HE.out.2.1).mono ?_
          rintro e9 w3 ⟨bt, capt, dt, rfl, hbt, hDt, hdtl, hdtv, hbp⟩
          have HT := Lib.hid (And.intro hDt (And.intro hdtl (And.intro hdtv (And.intro (HE.out.2.2.2.2.trans (hbp.mono HE.out.2.2.2.2.size)) hbp))))
          clear hbt hDt hdtl hdtv hbp co fo
          go_wp2_with fail
          refine (product_digits bt capt g' cap' 6 3 dt e (by omega) (by omega) HT.out.2.1 HE.out.2.2.1 _ HT.out.1 (HE.out.2.1.below HT.out.2.2.2.2)).mono ?_
          rintro e9 w4 ⟨bt2, capt2, dt2, rfl, hbt2, hDt2, hdtl2, hdtv2, hbp2⟩
          have HT2 := Lib.hid (And.intro hDt2 (And.intro hdtl2 (And.intro (show vd dt2 9 = vd e 3 * vd e 3 * vd e 3 by rw [← HT.out.2.2.1]; exact hdtv2) (And.intro (HT.out.2.2.2.1.trans (hbp2.mono HT.out.2.2.2.1.size)) (HT.out.2.2.2.2.trans (hbp2.mono HT.out.2.2.2.2.size))))))
          clear hbt2 hDt2 hdtl2 hdtv2 hbp2 HT
          go_wp2_with fail
          refine (less_any g c bt2 capt2 (6 + 1) (3 + 3 + 3) (gdg p 6) dt2 (by omega) (by omega) (fun j _ => by unfold gdg; split; exact HP.out; omega) HT2.out.2.1 _ (H.out.gl.below HT2.out.2.2.2.1) HT2.out.1).mono ?_
          rintro e9 w9 ⟨rfl, rfl⟩
          have hcmp : decide (vd (gdg p 6) (6 + 1) < vd dt2 (3 + 3 + 3)) = !(decide ((vd d 3 + 2 ^ i) ^ 3 ≤ GN)) := by
            rw [← HG.out.1, HG.out.2, HT2.out.2.2.1, HE.out.2.2.2.1, Nat.pow_succ, Nat.pow_two]
            by_cases h : (vd d 3 + 2 ^ i) * (vd d 3 + 2 ^ i) * (vd d 3 + 2 ^ i) ≤ GN
            · rw [decide_eq_true h, decide_eq_false (by omega)]; rfl
            · rw [decide_eq_false h, decide_eq_true (by omega)]; rfl
          rw [hcmp]
          clear hcmp
          by_cases hle : (vd d 3 + 2 ^ i) ^ 3 ≤ GN
          · have HN := Lib.hid (H.out.take HT2.out.2.2.2.1 (HE.out.2.1.below HT2.out.2.2.2.2) (Nat.le_trans H.out.old.size HE.out.1) HE.out.2.2.1 HE.out.2.2.2.1 hle)
            rw [decide_eq_true hle]
            clear hle HE HT2 H HOR
            go_wp2_with fail
            go_roundw
            case rel => exact ⟨(i : Int) - 1, i, g', cap', e, by omega, rfl, rfl, rfl, HN⟩
            case measure => first | (simp [intOf]; done) | (simp [intOf]; omega)
          · have HN := Lib.hid (H.out.stay HT2.out.2.2.2.1 hle)
            rw [decide_eq_false hle]
            clear hle HE HT2 H HOR
            go_wp2_with fail
            go_roundw
            case rel => exact ⟨(i : Int) - 1, i, g2, c2, d, by omega, rfl, rfl, rfl, HN⟩
            case measure => first | (simp [intOf]; done) | (simp [intOf]; omega)
        | zero =>
          have hz1 : z < 0 := by omega
          have hzf : decide (0 ≤ z) = false := by rw [decide_eq_false_iff_not]; omega
          have HZ := Lib.hid hz; clear hz
          go_wp2_with fail
          go_loopw [13, 14] (fun nv iv wx => ∃ (z : Int) (k r : Nat), k ≤ 2 ∧ z = (k : Int) - 1 ∧ iv = .int .i64 z ∧ nv = .int .u64 r ∧ r = vd d 3 % 65536 ^ 2 / 65536 ^ k ∧ wx = wr) (fun _ iv _ => (intOf iv + 1).toNat)
          case atStart => exact ⟨1, 2, 0, by omega, by omega, rfl, rfl, by rw [Nat.div_eq_of_lt (Nat.mod_lt _ (Nat.pow_pos (by omega)))], rfl⟩
          case round =>
            obtain ⟨z2, k, r, hk, hz2, rfl, rfl, hr, rfl⟩ := hrel
            cases k with
            | succ j =>
              obtain rfl : z2 = (j : Int) := by omega
              have hj0 : (0 : Int) ≤ j := by omega
              have hj1 : (j : Int) < 2 := by omega
              have hj2 : (j : Int) < 3 := by omega
              clear hz2
              have cj : wr.cell? ⟨g2, j, none⟩ = some (.int .u64 (d j : Nat)) := H.out.x.2 j (by omega)
              have hdj := H.out.dlt j (by omega)
              have hnext : vd d 3 % 65536 ^ 2 / 65536 ^ j = r * 65536 + d j := by
                rw [low_next (by omega), ← hr, vd_digit (by omega) H.out.dlt]
              have hrl : r < 281474976710656 := by
                rw [hr, Nat.div_lt_iff_lt_mul (Nat.pow_pos (by omega))]
                have h1 : vd d 3 % 65536 ^ 2 < 65536 ^ 2 := Nat.mod_lt _ (Nat.pow_pos (by omega))
                have h2 : 65536 ^ 1 ≤ 65536 ^ (j + 1) := Nat.pow_le_pow_right (by omega) (by omega)
                have h3 := Nat.mul_le_mul_left 281474976710656 h2
                omega
              have e1 : IntKind.u64.wrap ((r : Int) * 2 ^ 16) = ((r * 65536 : Nat) : Int) := by rw [IntKind.wrap_u64]; omega
              have e2 : IntKind.u64.wrap ((r : Int) * 65536) = ((r * 65536 : Nat) : Int) := by rw [IntKind.wrap_u64]; omega
              have hor : bits .or .u64 ((r * 65536 : Nat) : Int) ((d j : Nat) : Int) = ((r * 65536 + d j : Nat) : Int) := by
                rw [bits_or_u64_nat _ _ (by omega) (by omega), or_low16 _ _ hdj]
              have HOR := Lib.hid (And.intro hor hnext)
              clear hor hnext hr hrl hdj
              generalize hR : r * 65536 = R at e1 e2 HOR
              have HRR := Lib.hid hR
              clear hR
              go_wp2_with fail
              rw [HOR.out.1]
              go_roundw
              case rel => exact ⟨(j : Int) - 1, j, R + d j, by omega, rfl, rfl, rfl, HOR.out.2.symm, trivial⟩
              case measure => first | (simp [intOf]; done) | (simp [intOf]; omega)
            | zero =>
              have hz3 : z2 < 0 := by omega
              have hzf2 : decide (0 ≤ z2) = false := by rw [decide_eq_false_iff_not]; omega
              have HR := Lib.hid (show r = F % 65536 ^ 2 from by
                rw [hr, Nat.pow_zero, Nat.div_one]
                have h9 := H.out.left
                rw [show frs GN 3 0 (vd d 3) = vd d 3 from rfl] at h9
                rw [h9])
              clear hz2 hr
              go_wp2_with fail
              go_ret
              exact ⟨by rw [← HR.out]; rfl, H.out.old⟩
end Go.Proofs.YtkecehcnoihiiaaDoor
namespace Go.Proofs.YtkecehcnoihiiaaDoor
open Go.RowKit

set_option maxRecDepth 100000 in
set_option maxHeartbeats 4000000 in
-- WHAT Fraction COMES TO.
theorem frac_2_32 (p : Nat) (hp : p < 65536) (w : World) : Calls Tryd.prog 23 #[.int .u64 p, .int .i64 2, .int .i64 32] w fun e w' => e = .returned (.int .u64 ((frn p 2 32 % 65536 ^ 2 : Nat) : Int)) ∧ Below w.heap.size w w' := by
  obtain ⟨i0, hi, hz0, hz1, hz2⟩ := info_partsU info22
  have hG0 : p * 2 ^ (2 * 32) = vd (gdg p 4) (4 + 1) := by rw [vd_gdg]
  obtain ⟨F, hF⟩ : ∃ F, frn p 2 32 = F := ⟨_, rfl⟩
  have HF := Lib.hid hF
  rw [hF]
  clear hF
  obtain ⟨GN, hGN⟩ : ∃ GN, p * 2 ^ (2 * 32) = GN := ⟨_, rfl⟩
  have HG := Lib.hid (And.intro hG0 hGN)
  have HP := Lib.hid hp
  clear hG0 hGN hp
  go_enter Tryd.func23, Tryd.ntmps23
  go_wp2_with fail
  go_loopw [7, 8] (fun gv iv wr => ∃ k g c L : Nat, k ≤ 4 ∧ L = k + 1 ∧ iv = .int .i64 k ∧ gv = .slice (some ⟨g, 0, none⟩) L c ∧ Hid (w.heap.size ≤ g ∧ Dg wr g L (gdg p k) ∧ Below w.heap.size w wr)) (fun _ iv _ => 4 - (intOf iv).toNat)
  case atStart => exact ⟨0, _, _, 1, by omega, rfl, rfl, rfl, Lib.hid ⟨Nat.le_refl _, ⟨by simp, fun j hj => by obtain rfl : j = 0 := (by omega); exact (cell_of_row _ _ 0 _ _ _ (heap_alloc_new _ _)).trans rfl⟩, by go_grown⟩⟩
  case round =>
    obtain ⟨k, g, c, L, hk, rfl, rfl, rfl, H⟩ := hrel
    have hk0 : (0 : Int) ≤ k := by omega
    by_cases hlt : k < 4
    · have hlt' : (k : Int) < 4 := by omega
      have HEN := Lib.hid (fown_one wr)
      go_wp2_with (at_builtin; refine wpList_append_own _ rfl _ _ 54 rfl wr.heap.size 47 i0 (.int .u64 0) 1 8 Tryd.underlying54 hi hz0 hz1 hz2 rfl (by decide) _ _ _ rfl HEN.out ⟨g, 0, none⟩ (k + 1) c (dl (gdg p k) (k + 1)) rfl (by rw [dl_len, Nat.mul_one]) ?d1 ?d2 ?d3 ?d4 ?d5 ?_)
      try (case d1 => exact fnews_dl (H.out.2.1.below ((Below.refl wr.heap.size wr).alloc (Nat.le_refl _) (.cells #[.int .u64 0] 47))))
      try (case d2 => exact fone_dl _ _)
      try (case d3 => unfold maxLen; omega)
      try (case d4 => omega)
      try (case d5 => first | omega | (simp; done) | (simp; omega))
      intro v' w1 hown' hgrow _
      rw [dl_pre p k] at hown'
      obtain ⟨g', cap', rfl, hg', hcap', hdg', -⟩ := fown_dg hown' (by omega)
      have hbw : Below wr.heap.size wr w1 := ((Below.refl _ _).alloc (Nat.le_refl _) _).grown hgrow (by simp) (fun j hj => by cases hj; exact Nat.le_refl _)
      have hwr := H.out.2.2.size
      have HN := Lib.hid (And.intro (Nat.le_trans hwr hg') (And.intro hdg' (H.out.2.2.trans (hbw.mono hwr))))
      clear hown' hgrow hg' hdg' hbw HEN hwr
      go_wp2_with fail
      go_roundw
      case rel => exact ⟨k + 1, g', cap', 1 + (k + 1), by omega, by omega, by go_num, rfl, HN⟩
      case measure => simp [intOf]; omega
    · obtain rfl : k = 4 := by omega
      have hlt' : ¬ ((4 : Nat) : Int) < 4 := by omega
      clear hlt hlt' hk0
      go_wp2_with (at_make; refine wpList_make_full _ rfl _ _ 54 rfl w.heap.size 47 i0 (.int .u64 0) 1 Tryd.underlying54 hi hz0 hz1 .i64 .i64 _ _ 3 rfl rfl rfl rfl (by rw [hz2]; omega) (by unfold maxLen; omega) (H.out.2.2.size) ?_; intro w0 hown0 hgrow0)
      have hbel : Below wr.heap.size wr w0 := (Below.refl _ _).grown hgrow0 (Nat.le_refl _) (fun k hk => by cases hk)
      have hb0 : Below w.heap.size w w0 := H.out.2.2.trans (hbel.mono H.out.2.2.size)
      have hown1 : w0.ownsRow w.heap.size 47 1 (.slice (some ⟨wr.heap.size, 0, none⟩) 3 3) 3 (dl (fun _ => 0) 3) := by
        have h9 := hown0
        simp at h9
        have e : (madeCells (Value.int IntKind.u64 0).cells 3).toList = dl (fun _ => 0) 3 := by kernel_rfl
        rw [e] at h9
        exact h9
      obtain ⟨g0, c0, e0, hg0, -, hdg0, -⟩ := fown_dg hown1 (by omega)
      have h3 : wr.heap.size = g0 := congrArg Addr.block (Option.some.inj (Value.slice.inj e0).1)
      subst h3
      have HX := Lib.hid (show FrR w g 4 3 wr.heap.size 37 GN 2 F p (fun _ => 0) w0 from ⟨hb0, H.out.2.1.below hbel, H.out.1, hdg0, hg0, fun _ _ => by show 0 < 65536; omega, by rw [vd_nought]; exact Nat.dvd_zero _, by rw [vd_nought, ← HF.out, ← HG.out.2]; rfl⟩)
      clear hbel hb0 hown1 hown0 hgrow0 hdg0 hg0 e0 H
      go_wp2_with fail
      go_loopw [9, 10] (fun xv iv wr => ∃ (z : Int) (n g2 c2 : Nat) (d : Nat → Nat), n ≤ 37 ∧ z = (n : Int) - 1 ∧ iv = .int .i64 z ∧ xv = .slice (some ⟨g2, 0, none⟩) 3 c2 ∧ Hid (FrR w g 4 3 g2 n GN 2 F p d wr)) (fun _ iv _ => (intOf iv + 1).toNat)
      case atStart => exact ⟨36, 37, _, _, _, by omega, by omega, rfl, rfl, HX⟩
      case round =>
        obtain ⟨z, n, g2, c2, d, hn, hz, rfl, rfl, H⟩ := hrel
        clear HX
        cases n with
        | succ i =>
          obtain rfl : z = (i : Int) := by omega
          have hi0 : (0 : Int) ≤ i := by omega
          have hi1 : (i : Int) < 37 := by omega
          clear hz
          obtain ⟨q, hq⟩ : ∃ q : Nat, (i : Int) / 16 = (q : Int) := ⟨i / 16, by omega⟩
          obtain ⟨s, hs⟩ : ∃ s : Nat, (i : Int) % 16 = (s : Int) := ⟨i % 16, by omega⟩
          have hq0 : (0 : Int) ≤ q := by omega
          have hq1 : (q : Int) < 3 := by omega
          have hs0 : (0 : Int) ≤ s := by omega
          have hs1 : (s : Int) < 16 := by omega
          have HIQ := Lib.hid (show i = 16 * q + s by omega)
          have hmake := World.ownsRow_made (base := wr.heap.size) (e := 47) (size := 1) wr #[] 0 (by simp) (by decide) (by simp)
          go_wp2_with (at_builtin; refine wpList_append_own _ rfl _ _ 54 rfl wr.heap.size 47 i0 (.int .u64 0) 1 8 Tryd.underlying54 hi hz0 hz1 hz2 rfl (by decide) _ _ _ rfl hmake ⟨g2, 0, none⟩ 3 c2 (dl d 3) rfl (by rw [dl_len, Nat.mul_one]) ?d1 ?d2 ?d3 ?d4 ?d5 ?_)
          try (case d1 => exact fnews_dl (H.out.x.below ((Below.refl wr.heap.size wr).alloc (Nat.le_refl _) _)))
          try (case d2 => exact fone_dl _ _)
          try (case d3 => unfold maxLen; omega)
          try (case d4 => omega)
          try (case d5 => first | omega | (simp; done) | (simp; omega))
          intro v' w1 hown' hgrow _
          have hown2 : w1.ownsRow wr.heap.size 47 1 v' 3 (dl d 3) := by simpa using hown'
          obtain ⟨g', cap', rfl, hg', hcap', hdg', hout'⟩ := fown_dg hown2 (by omega)
          have hbw : Below wr.heap.size wr w1 := ((Below.refl _ _).alloc (Nat.le_refl _) _).grown hgrow (by simp) (fun j hj => by cases hj; exact Nat.le_refl _)
          have co : w1.cell? ⟨g', q, none⟩ = some (.int .u64 (d q : Nat)) := hdg'.2 q (by omega)
          have fo : w1.frozen? ⟨g', q, none⟩ = false := (hout'.2 q (by omega)).2
          obtain ⟨y, hy⟩ : ∃ y : Nat, 2 ^ s = y := ⟨_, rfl⟩
          have hyl : y < 65536 := by rw [← hy, show (65536 : Nat) = 2 ^ 16 by rfl]; exact Nat.pow_lt_pow_right (by omega) (by omega)
          have hpw : IntKind.u64.wrap ((2 : Int) ^ s) = (y : Int) := by
            have e0 : ((2 ^ s : Nat) : Int) = (2 : Int) ^ s := by simp
            rw [← e0, hy, IntKind.wrap_u64]; omega
          have hdq := H.out.dlt q (by omega)
          have horn : d q ||| y = d q + y := by
            rw [← hy]
            refine or_bit (d q) s (digit_dvd (d := d) (B := 3) (j := q) (by omega) (by omega) H.out.dlt ?_)
            rw [← Nat.add_assoc, ← HIQ.out]
            exact H.out.dvd
          have hsum : d q + y < 65536 := by
            rw [← horn]
            exact Nat.or_lt_two_pow (n := 16) hdq hyl
          have hor : bits .or .u64 ((d q : Nat) : Int) (y : Int) = ((d q + y : Nat) : Int) := by
            rw [bits_or_u64_nat _ _ (by omega) (by omega), horn]
          have hvb : vd (upd d q (d q + y)) 3 = vd d 3 + 2 ^ i := by rw [← hy, vd_bit (by omega), ← HIQ.out]
          obtain ⟨e, he⟩ : ∃ e, upd d q (d q + y) = e := ⟨_, rfl⟩
          have hel : ∀ j, j < 3 → e j < 65536 := fun j hj => by
            rw [← he]
            unfold upd
            split
            · exact hsum
            · exact H.out.dlt j hj
          have hset : Dg (w1.setCell ⟨g', q, none⟩ (.int .u64 ((d q + y : Nat) : Int))) g' 3 e := by
            have h9 := hout'.set q (d q + y) (by omega)
            rw [he] at h9
            exact ⟨h9.1, fun j hj => (h9.2 j hj).1⟩
          rw [he] at hvb
          have HE := Lib.hid (And.intro hg' (And.intro hset (And.intro hel (And.intro hvb (hbw.setCell (p := ⟨g', q, none⟩) hg' (.int .u64 ((d q + y : Nat) : Int)))))))
          have HOR := Lib.hid hor
          clear hown' hown2 hgrow hdg' hout' hbw hy hyl hdq horn hsum hor hvb he hel hset hmake hg'
          go_wp2_with fail
          rw [HOR.out]
          refine (product_digits g' cap' g' cap' 3 3 e e (by omega) (by omega) HE.out.2.2.1 HE.out.2.2.1 _ HE.out.2.1 HE.out.2.1).mono ?_
          rintro e9 w3 ⟨bt, capt, dt, rfl, hbt, hDt, hdtl, hdtv, hbp⟩
          have HT := Lib.hid (And.intro hDt (And.intro hdtl (And.intro hdtv (And.intro (HE.out.2.2.2.2.trans (hbp.mono HE.out.2.2.2.2.size)) hbp))))
          clear hbt hDt hdtl hdtv hbp co fo
          go_wp2_with fail
          refine (less_any g c bt capt (4 + 1) (3 + 3) (gdg p 4) dt (by omega) (by omega) (fun j _ => by unfold gdg; split; exact HP.out; omega) HT.out.2.1 _ (H.out.gl.below HT.out.2.2.2.1) HT.out.1).mono ?_
          rintro e9 w9 ⟨rfl, rfl⟩
          have hcmp : decide (vd (gdg p 4) (4 + 1) < vd dt (3 + 3)) = !(decide ((vd d 3 + 2 ^ i) ^ 2 ≤ GN)) := by
            rw [← HG.out.1, HG.out.2, HT.out.2.2.1, HE.out.2.2.2.1, Nat.pow_two]
            by_cases h : (vd d 3 + 2 ^ i) * (vd d 3 + 2 ^ i) ≤ GN
            · rw [decide_eq_true h, decide_eq_false (by omega)]; rfl
            · rw [decide_eq_false h, decide_eq_true (by omega)]; rfl
          rw [hcmp]
          clear hcmp
          by_cases hle : (vd d 3 + 2 ^ i) ^ 2 ≤ GN
          · have HN := Lib.hid (H.out.take HT.out.2.2.2.1 (HE.out.2.1.below HT.out.2.2.2.2) (Nat.le_trans H.out.old.size HE.out.1) HE.out.2.2.1 HE.out.2.2.2.1 hle)
            rw [decide_eq_true hle]
            clear hle HE HT H HOR
            go_wp2_with fail
            go_roundw
            case rel => exact ⟨(i : Int) - 1, i, g', cap', e, by omega, rfl, rfl, rfl, HN⟩
            case measure => first | (simp [intOf]; done) | (simp [intOf]; omega)
          · have HN := Lib.hid (H.out.stay HT.out.2.2.2.1 hle)
            rw [decide_eq_false hle]
            clear hle HE HT H HOR
            go_wp2_with fail
            go_roundw
            case rel => exact ⟨(i : Int) - 1, i, g2, c2, d, by omega, rfl, rfl, rfl, HN⟩
            case measure => first | (simp [intOf]; done) | (simp [intOf]; omega)
        | zero =>
          have hz1 : z < 0 := by omega
          have hzf : decide (0 ≤ z) = false := by rw [decide_eq_false_iff_not]; omega
          have HZ := Lib.hid hz; clear hz
          go_wp2_with fail
          go_loopw [13, 14] (fun nv iv wx => ∃ (z : Int) (k r : Nat), k ≤ 2 ∧ z = (k : Int) - 1 ∧ iv = .int .i64 z ∧ nv = .int .u64 r ∧ r = vd d 3 % 65536 ^ 2 / 65536 ^ k ∧ wx = wr) (fun _ iv _ => (intOf iv + 1).toNat)
          case atStart => exact ⟨1, 2, 0, by omega, by omega, rfl, rfl, by rw [Nat.div_eq_of_lt (Nat.mod_lt _ (Nat.pow_pos (by omega)))], rfl⟩
          case round =>
            obtain ⟨z2, k, r, hk, hz2, rfl, rfl, hr, rfl⟩ := hrel
            cases k with
            | succ j =>
              obtain rfl : z2 = (j : Int) := by omega
              have hj0 : (0 : Int) ≤ j := by omega
              have hj1 : (j : Int) < 2 := by omega
              have hj2 : (j : Int) < 3 := by omega
              clear hz2
              have cj : wr.cell? ⟨g2, j, none⟩ = some (.int .u64 (d j : Nat)) := H.out.x.2 j (by omega)
              have hdj := H.out.dlt j (by omega)
              have hnext : vd d 3 % 65536 ^ 2 / 65536 ^ j = r * 65536 + d j := by
                rw [low_next (by omega), ← hr, vd_digit (by omega) H.out.dlt]
              have hrl : r < 281474976710656 := by
                rw [hr, Nat.div_lt_iff_lt_mul (Nat.pow_pos (by omega))]
                have h1 : vd d 3 % 65536 ^ 2 < 65536 ^ 2 := Nat.mod_lt _ (Nat.pow_pos (by omega))
                have h2 : 65536 ^ 1 ≤ 65536 ^ (j + 1) := Nat.pow_le_pow_right (by omega) (by omega)
                have h3 := Nat.mul_le_mul_left 281474976710656 h2
                omega
              have e1 : IntKind.u64.wrap ((r : Int) * 2 ^ 16) = ((r * 65536 : Nat) : Int) := by rw [IntKind.wrap_u64]; omega
              have e2 : IntKind.u64.wrap ((r : Int) * 65536) = ((r * 65536 : Nat) : Int) := by rw [IntKind.wrap_u64]; omega
              have hor : bits .or .u64 ((r * 65536 : Nat) : Int) ((d j : Nat) : Int) = ((r * 65536 + d j : Nat) : Int) := by
                rw [bits_or_u64_nat _ _ (by omega) (by omega), or_low16 _ _ hdj]
              have HOR := Lib.hid (And.intro hor hnext)
              clear hor hnext hr hrl hdj
              generalize hR : r * 65536 = R at e1 e2 HOR
              have HRR := Lib.hid hR
              clear hR
              go_wp2_with fail
              rw [HOR.out.1]
              go_roundw
              case rel => exact ⟨(j : Int) - 1, j, R + d j, by omega, rfl, rfl, rfl, HOR.out.2.symm, trivial⟩
              case measure => first | (simp [intOf]; done) | (simp [intOf]; omega)
            | zero =>
              have hz3 : z2 < 0 := by omega
              have hzf2 : decide (0 ≤ z2) = false := by rw [decide_eq_false_iff_not]; omega
              have HR := Lib.hid (show r = F % 65536 ^ 2 from by
                rw [hr, Nat.pow_zero, Nat.div_one]
                have h9 := H.out.left
                rw [show frs GN 2 0 (vd d 3) = vd d 3 from rfl] at h9
                rw [h9])
              clear hz2 hr
              go_wp2_with fail
              go_ret
              exact ⟨by rw [← HR.out]; rfl, H.out.old⟩
end Go.Proofs.YtkecehcnoihiiaaDoor
namespace Go.Proofs.YtkecehcnoihiiaaDoor
open Go.RowKit

theorem k_cube : ∀ j : Fin 64, ((frn (pr j) 3 32 % 65536 ^ 2 : Nat) : Int) = kT j := by decide +kernel
theorem k_root : ∀ j : Fin 8, ((frn (pr j) 2 32 % 65536 ^ 2 : Nat) : Int) = iniH j := by decide +kernel
theorem k_small : ∀ j : Fin 64, IntKind.u32.wrap (kT j) = kT j := by decide +kernel
theorem i_small : ∀ j : Fin 8, IntKind.u32.wrap (iniH j) = iniH j := by decide +kernel
theorem frac_k (j : Nat) (hj : j < 64) (w : World) : Calls Tryd.prog 23 #[.int .u64 (pr j : Nat), .int .i64 3, .int .i64 32] w fun e w' => e = .returned (.int .u64 (kT j)) ∧ Below w.heap.size w w' := by
  have h := frac_3_32 (pr j) (by have := pr_pos ⟨j, hj⟩; simp at this; omega) w
  rw [k_cube ⟨j, hj⟩] at h
  exact h
theorem frac_i (j : Nat) (hj : j < 8) (w : World) : Calls Tryd.prog 23 #[.int .u64 (pr j : Nat), .int .i64 2, .int .i64 32] w fun e w' => e = .returned (.int .u64 (iniH j)) ∧ Below w.heap.size w w' := by
  have h := frac_2_32 (pr j) (by have := pr_pos ⟨j, by omega⟩; simp at this; omega) w
  rw [k_root ⟨j, hj⟩] at h
  exact h
/-- The first n constants. -/
def pk (n : Nat) : List Value := (List.range n).map fun j => .int .u32 (kT j)
theorem pk_at (n j : Nat) (h : j < n) : (pk n)[j]? = some (.int .u32 (kT j)) := by simp [pk, h]
theorem pk_snoc (n : Nat) (z : Int) (hx : kT n = z) : pk n ++ [.int .u32 z] = pk (n + 1) := by
  rw [← hx]
  unfold pk
  rw [List.range_succ, List.map_append]
  rfl
theorem infoU32 : (Tryd.prog.info? 38).map (fun i => (i.zero, i.size, i.bytes)) = some (some (.int .u32 0), 1, 4) := by kernel_rfl
theorem info8a : (Tryd.prog.info? 39).map (·.size) = some 8 := by kernel_rfl
def ibD (k j : Nat) : Int := if j < k then iniH j else 0
theorem ibD_next (k : Nat) : updI (ibD k) k (iniH k) = ibD (k + 1) := by
  funext j
  unfold updI ibD
  by_cases e : j = k
  · subst e; rw [if_pos rfl, if_pos (by omega)]
  · rw [if_neg e]
    by_cases e2 : j < k
    · rw [if_pos e2, if_pos (by omega)]
    · rw [if_neg e2, if_neg (by omega)]
theorem ibD_0 : ar .u32 8 (ibD 0) = #[.int .u32 0, .int .u32 0, .int .u32 0, .int .u32 0, .int .u32 0, .int .u32 0, .int .u32 0, .int .u32 0] := by kernel_rfl
theorem ibD_8 : ar .u32 8 (ibD 8) = ar .u32 8 iniH := ar_congr fun j hj => by unfold ibD; rw [if_pos hj]
theorem one_new32 (w : World) (x : Int) : ∀ j u, ([.int .u32 x] : List Value)[j]? = some u → (w.alloc (.cells #[.int .u32 x] 38)).cell? ((⟨w.heap.size, 0, none⟩ : Addr).add j) = some u := by
  intro j u h
  have hj : j = 0 := by
    have := (List.getElem?_eq_some_iff.1 h).1
    simp at this
    exact this
  subst hj
  exact (cell_of_row _ _ 0 _ _ _ (heap_alloc_new _ _)).trans h
theorem results_sc {fn : Func} {p q : Tmp} (h : fn.results = #[.tmp q, .cell p 39]) (tmps : Array Value) (w : World) (g : Nat) (cs : Array Value) (v : Value) (fr : Nat × Nat)
    (hq : tmps.getD q undef = v) (hp : tmps.getD p undef = .pointer (some ⟨g, 0, none⟩)) (hg : w.heap[g]? = some (.cells cs 39 fr))
    (hi : (Tryd.prog.info? 39).map (·.size) = some cs.size) :
    (results fn tmps).run Tryd.prog w = .ok (.tuple #[v, .agg cs]) w := by
  have hp' : tmps[p]?.getD undef = .pointer (some ⟨g, 0, none⟩) := by simpa using hp
  have hq' : tmps[q]?.getD undef = v := by simpa using hq
  simp [results, h, hp', hq', asAddr, run_loadVar_row w g 39 39 cs fr _ hg Tryd.underlying39 rfl hi]
theorem ld8 {w : World} {A : Nat} {b : Nat → Int} (h : w.heap[A]? = some (.cells (ar .u32 8 b) 39 (0, 0))) : (Instr.loadAt 39 (.pointer (some ⟨A, 0, none⟩))).run Tryd.prog w = .ok (.agg (ar .u32 8 b)) w := by
  simp only [Instr.loadAt, Instr.sureAddr, Sem.run_bind, Sem.run_pure, Result.andThen_ok, run_loadVar_row w A 39 39 _ (0, 0) _ h Tryd.underlying39 rfl (by rw [ar_size]; exact info8a)]
/-- The worlds of Table. -/
structure CTc (w : World) (pg A : Nat) (b : Nat → Int) (wx : World) : Prop where
  old : Below w.heap.size w wx
  r0 : wx.heap[w.heap.size]? = some (.cells #[.int .u32 0, .int .u32 0, .int .u32 0, .int .u32 0, .int .u32 0, .int .u32 0, .int .u32 0, .int .u32 0] 39 (0, 0))
  rA : wx.heap[A]? = some (.cells (ar .u32 8 b) 39 (0, 0))
  pl : ∀ j, j < 64 → wx.cell? ⟨pg, j, none⟩ = some (.int .u64 (pr j : Nat))
  hp : w.heap.size < pg ∧ pg < A
theorem CTc.high {w wx : World} {pg A : Nat} {b : Nat → Int} (c : CTc w pg A b wx) : A < wx.heap.size := (Array.getElem?_eq_some_iff.1 c.rA).1
theorem CTc.keep {w wx w' : World} {pg A g : Nat} {b : Nat → Int} (c : CTc w pg A b wx) (hg : wx.grownBy w' (some g)) (h1 : A < g ∨ g + 1 = A) (h2 : pg + 1 < A) : CTc w pg A b w' := by
  have l := c.high
  have l2 := c.hp
  refine ⟨c.old.grown hg (by omega) (fun j hj => by injection hj with hj; omega), (hg.block _ (by omega) (by simp; omega)).trans c.r0, (hg.block _ l (by simp; omega)).trans c.rA, fun j hj => (hg.cell_far ⟨pg, j, none⟩ (by show pg < _; omega) (by simp; omega)).trans (c.pl j hj), c.hp⟩
theorem CTc.below {w wx w' : World} {pg A : Nat} {b : Nat → Int} (c : CTc w pg A b wx) (hb : Below wx.heap.size wx w') : CTc w pg A b w' := by
  have l := c.high
  have l2 := c.hp
  exact ⟨c.old.trans (hb.mono (by omega)), (hb.block _ (by omega)).trans c.r0, (hb.block _ l).trans c.rA, fun j hj => (hb.cell (p := ⟨pg, j, none⟩) (by show pg < _; omega)).trans (c.pl j hj), l2⟩
theorem CTc.set {w wx : World} {pg A : Nat} {b : Nat → Int} (c : CTc w pg A b wx) (j : Nat) (hj : j < 8) (y : Int) : CTc w pg A (updI b j y) (wx.setCell ⟨A, j, none⟩ (.int .u32 y)) := by
  have l2 := c.hp
  exact ⟨c.old.setCell (by show w.heap.size ≤ A; omega) _, (heap_setCell_other _ _ _ _ (by show _ ≠ A; omega)).trans c.r0, (heap_setCell_same _ _ _ _ _ _ c.rA).trans (by rw [ar_set _ _ _ _ _ hj]), fun i hi => (World.cell?_of_block (w := wx) (a := ⟨pg, i, none⟩) (heap_setCell_other _ _ _ _ (by show pg ≠ A; omega))).trans (c.pl i hi), l2⟩
theorem own_keep {w w' : World} {B n : Nat} {e : TypeId} {v : Value} {xs : List Value} (h : w.ownsRow B e 1 v n xs) (hb : Below w.heap.size w w') : w'.ownsRow B e 1 v n xs := by
  obtain ⟨h1, h2⟩ := h
  refine ⟨h1, ?_⟩
  rcases h2 with h2 | ⟨g, cap, cur, e1, e2, e3, e4⟩
  · exact .inl h2
  · exact .inr ⟨g, cap, cur, e1, e2, (hb.block _ (Array.getElem?_eq_some_iff.1 e3).1).trans e3, e4⟩
set_option maxRecDepth 100000 in
set_option maxHeartbeats 8000000 in
-- WHAT Table COMES TO.
theorem table_any (w : World) : Calls Tryd.prog 14 #[] w fun e w' => ∃ g c, e = .returned (.tuple #[.slice (some ⟨g, 0, none⟩) 64 c, .agg (ar .u32 8 iniH)]) ∧ w.heap.size ≤ g ∧ g < w'.heap.size ∧ 64 ≤ c ∧ (∀ j, j < 64 → w'.cell? ⟨g, j, none⟩ = some (.int .u32 (kT j))) ∧ Below w.heap.size w w' := by
  obtain ⟨i0, hi, hz0, hz1, hz2⟩ := info_partsU infoU32
  have hb0 : Below w.heap.size w (w.alloc (.cells #[.int .u32 0, .int .u32 0, .int .u32 0, .int .u32 0, .int .u32 0, .int .u32 0, .int .u32 0, .int .u32 0] 39)) := (Below.refl _ _).alloc (Nat.le_refl _) _
  have H0 := Lib.hid (And.intro hb0 (heap_alloc_new w (.cells #[.int .u32 0, .int .u32 0, .int .u32 0, .int .u32 0, .int .u32 0, .int .u32 0, .int .u32 0, .int .u32 0] 39)))
  clear hb0
  go_enter Tryd.func14, Tryd.ntmps14
  go_wp2_with fail
  refine (primes_any 64 (by decide) _).mono ?_
  rintro e w1 ⟨pg, pc, rfl, hown, hb⟩
  obtain ⟨B0, hB0⟩ : ∃ B0, w1.heap.size = B0 := ⟨_, rfl⟩
  have hpg := hown.lt pg (by simp [Value.ownBlock])
  have hpl : ∀ j, j < 64 → w1.cell? ⟨pg, j, none⟩ = some (.int .u64 (pr j : Nat)) := fun j hj => (hown.cellAt j hj).trans (pu_at _ _ _ hj)
  have hw1 : w.heap.size < w1.heap.size := Nat.lt_of_lt_of_le (by simp) hb.size
  have hpg2 := hpg.2
  have hpg1 : w.heap.size + 1 ≤ pg := by have := hpg.1; simpa using this
  have hown0 : ((w1.alloc (.cells #[] 38)).alloc (.cells #[.int .u32 0, .int .u32 0, .int .u32 0, .int .u32 0, .int .u32 0, .int .u32 0, .int .u32 0, .int .u32 0] 39)).ownsRow B0 38 1 (.slice (some ⟨B0, 0, none⟩) 0 0) 0 (pk 0) := by
    have h1 := World.ownsRow_made (base := B0) (e := 38) (size := 1) w1 #[] 0 (by omega) (by decide) (by simp)
    rw [hB0] at h1
    have h2 := World.ownsRow.alloc h1 (.cells #[.int .u32 0, .int .u32 0, .int .u32 0, .int .u32 0, .int .u32 0, .int .u32 0, .int .u32 0, .int .u32 0] 39)
    simpa [pk] using h2
  have hc0 : CTc w pg (B0 + 1) (ibD 0) ((w1.alloc (.cells #[] 38)).alloc (.cells #[.int .u32 0, .int .u32 0, .int .u32 0, .int .u32 0, .int .u32 0, .int .u32 0, .int .u32 0, .int .u32 0] 39)) := by
    have hb1 : Below w.heap.size w w1 := H0.out.1.trans (hb.mono (by simp))
    refine ⟨(hb1.alloc (by omega) _).alloc (by simp; omega) _, (heap_alloc_old _ _ (by simp; omega)).trans ((heap_alloc_old _ _ hw1).trans ((hb.block _ (by simp)).trans H0.out.2)), ?_, fun j hj => ?_, by omega, by omega⟩
    · rw [ibD_0, ← hB0]
      have h := heap_alloc_new (w1.alloc (.cells #[] 38)) (.cells #[.int .u32 0, .int .u32 0, .int .u32 0, .int .u32 0, .int .u32 0, .int .u32 0, .int .u32 0, .int .u32 0] 39)
      simpa using h
    · refine (World.cell?_of_block (w := w1) (a := ⟨pg, j, none⟩) ?_).trans (hpl j hj)
      exact (heap_alloc_old _ _ (by simp; omega)).trans (heap_alloc_old _ _ hpg2)
  have HX := Lib.hid (And.intro hown0 (And.intro hc0 (show pg < B0 by omega)))
  rw [← hB0] at HX
  clear hown hb hpl hpg hpg1 hpg2 hown0 hc0 hw1 H0
  go_wp2_with (refine wpList_that (.build 39 #[]) rfl (w' := w1.alloc (.cells #[] 38)) rfl (.agg #[.int .u32 0, .int .u32 0, .int .u32 0, .int .u32 0, .int .u32 0, .int .u32 0, .int .u32 0, .int .u32 0]) (by kernel_rfl) ?_)
  rw [hB0] at HX
  go_loopw [3, 5] (fun v x wr => ∃ k g c : Nat, k ≤ 64 ∧ x = .int .i64 k ∧ v = .slice (some ⟨g, 0, none⟩) k c ∧ Hid (wr.ownsRow B0 38 1 v k (pk k) ∧ CTc w pg (B0 + 1) (ibD 0) wr ∧ (B0 + 1 < g ∨ g = B0))) (fun _ x _ => 64 - (intOf x).toNat)
  case atStart => exact ⟨0, B0, 0, by omega, rfl, rfl, Lib.hid ⟨HX.out.1, HX.out.2.1, .inr rfl⟩⟩
  case round =>
    obtain ⟨k, g, c, hk, rfl, rfl, H⟩ := hrel
    have HPB := Lib.hid HX.out.2.2
    clear HX
    have hk0 : (0 : Int) ≤ k := by omega
    by_cases hlt : k < 64
    · have hlt' : (k : Int) < 64 := by omega
      have HK := Lib.hid hlt
      have ck := H.out.2.1.pl k hlt
      have HF := Lib.hid (frac_k k hlt wr)
      have hsm := k_small ⟨k, hlt⟩
      have HY := Lib.hid (pk_snoc k _ rfl)
      obtain ⟨p, hp⟩ : ∃ p, pr k = p := ⟨_, rfl⟩
      obtain ⟨y, hy⟩ : ∃ y, kT k = y := ⟨_, rfl⟩
      rw [hp] at ck HF
      simp only at hsm
      rw [hy] at HF hsm HY
      clear hp hy
      go_wp2_with fail
      refine HF.out.mono ?_
      rintro e u ⟨rfl, hbu⟩
      have hsz := H.out.2.1.high
      have H2 := Lib.hid (show u.ownsRow B0 38 1 (.slice (some ⟨g, 0, none⟩) k c) k (pk k) ∧ CTc w pg (B0 + 1) (ibD 0) u ∧ (B0 + 1 < g ∨ g = B0) from ⟨own_keep H.out.1 hbu, H.out.2.1.below hbu, H.out.2.2⟩)
      have hul := H2.out.2.1.high
      clear H HF hbu ck hsz
      go_wp2_with (at_builtin; refine wpList_append_lies _ rfl _ _ 37 rfl B0 38 i0 (.int .u32 0) 1 4 Tryd.underlying37 hi hz0 hz1 hz2 rfl (by decide) _ k (pk k) rfl (World.ownsRow.alloc H2.out.1 _) ⟨u.heap.size, 0, none⟩ 1 1 [.int .u32 y] rfl rfl (one_new32 _ _) (by intro u hu; simp at hu; subst hu; rfl) (by omega) (by unfold maxLen; omega) (by omega) (by simp; omega) (u.heap.size + 1) (by simp) ?_; intro g2 c2 w3 hown3 hgrow hat hlt3)
      have h2 := H2.out.2.1.high
      have hcg : CTc w pg (B0 + 1) (ibD 0) w3 := (H2.out.2.1.below ((Below.refl _ _).alloc (Nat.le_refl _) _)).keep (g := g) hgrow (by have := H2.out.2.2; omega) (by have := HPB.out; omega)
      rw [HY.out] at hown3
      have HQ := Lib.hid (show w3.ownsRow B0 38 1 (.slice (some ⟨g2, 0, none⟩) (k + 1) c2) (k + 1) (pk (k + 1)) ∧ CTc w pg (B0 + 1) (ibD 0) w3 ∧ (B0 + 1 < g2 ∨ g2 = B0) from ⟨hown3, hcg, by
        rcases hat with hat | hat
        · have e : g = g2 := by injection hat
          rw [← e]
          exact H2.out.2.2
        · left; omega⟩)
      clear hgrow hat hlt3 hown3 hcg H2 hul h2
      go_roundw
      case rel => exact ⟨k + 1, g2, c2, by omega, by go_num, rfl, HQ⟩
      case measure => simp [intOf]; omega
    · obtain rfl : k = 64 := by omega
      rw [show (((64 : Nat) : Int)) = (64 : Int) from rfl]
      obtain ⟨A, hA⟩ : ∃ A, B0 + 1 = A := ⟨_, rfl⟩
      have hgA : g ≠ A ∧ pg < A := by have h1 := H.out.2.2; have h2 := HPB.out; omega
      have hgl := H.out.1.lt g (by simp [Value.ownBlock])
      have hcp : 64 ≤ c := by
        obtain ⟨-, h2⟩ := H.out.1
        rcases h2 with ⟨h2, h3⟩ | ⟨g', cap, cur, e1, -, -, e4, -⟩
        · cases h3
        · injection e1 with _ _ e1
          rw [e1]
          exact e4
      have H1 := Lib.hid (show CTc w pg A (ibD 0) wr ∧ (∀ j, j < 64 → wr.cell? ⟨g, j, none⟩ = some (.int .u32 (kT j))) from ⟨by rw [← hA]; exact H.out.2.1, fun j hj => (H.out.1.cellAt j hj).trans (pk_at _ _ hj)⟩)
      have HG := Lib.hid (And.intro hgA (And.intro (show w.heap.size < g ∧ g < wr.heap.size by have := H1.out.1.hp; have := HPB.out; omega) hcp))
      rw [hA]
      clear hgA hgl hcp H hA HPB
      go_wp2_with fail
      go_loopw [6] (fun x wz => ∃ k : Nat, k ≤ 8 ∧ x = .int .i64 k ∧ Hid (CTc w pg A (ibD k) wz ∧ (∀ j, j < 64 → wz.cell? ⟨g, j, none⟩ = some (.int .u32 (kT j))) ∧ wr.heap.size ≤ wz.heap.size)) (fun x _ => 8 - (intOf x).toNat)
      case atStart => exact ⟨0, by omega, rfl, Lib.hid ⟨H1.out.1, H1.out.2, Nat.le_refl _⟩⟩
      case round =>
        obtain ⟨k, hk, rfl, H⟩ := hrel
        clear H1
        have hk0 : (0 : Int) ≤ k := by omega
        by_cases hlt : k < 8
        · have hlt' : (k : Int) < 8 := by omega
          have hlt2 : (k : Int) < 64 := by omega
          have HK := Lib.hid hlt
          have ck := H.out.1.pl k (by omega)
          have HF := Lib.hid (frac_i k hlt wr)
          have hsm := i_small ⟨k, hlt⟩
          have HN := Lib.hid (ibD_next k)
          obtain ⟨p, hp⟩ : ∃ p, pr k = p := ⟨_, rfl⟩
          obtain ⟨y, hy⟩ : ∃ y, iniH k = y := ⟨_, rfl⟩
          rw [hp] at ck HF
          simp only at hsm
          rw [hy] at HF hsm HN
          clear hp hy
          go_wp2_with fail
          refine HF.out.mono ?_
          rintro e u ⟨rfl, hbu⟩
          have H2 := Lib.hid (show CTc w pg A (ibD k) u ∧ (∀ j, j < 64 → u.cell? ⟨g, j, none⟩ = some (.int .u32 (kT j))) ∧ g < u.heap.size from ⟨H.out.1.below hbu, fun j hj => (hbu.cell (p := ⟨g, j, none⟩) (by have h1 := H.out.2.2; have h2 := HG.out.2.1.2; show g < _; omega)).trans (H.out.2.1 j hj), by have h1 := H.out.2.2; have h2 := HG.out.2.1.2; have h3 := hbu.size; omega⟩)
          have H3 := Lib.hid (show _ ≤ u.heap.size from Nat.le_trans H.out.2.2 hbu.size)
          have co := (cell_of_row u _ k _ _ _ H2.out.1.rA).trans (ar_at _ _ _ _ HK.out)
          have fo := frozen_of_row _ _ k _ _ H2.out.1.rA
          have h5 := H2.out.1.set k HK.out y
          rw [HN.out] at h5
          have H5 := Lib.hid (show CTc w pg A (ibD (k + 1)) (u.setCell ⟨A, k, none⟩ (.int .u32 y)) ∧ (∀ j, j < 64 → (u.setCell ⟨A, k, none⟩ (.int .u32 y)).cell? ⟨g, j, none⟩ = some (.int .u32 (kT j))) ∧ _ ≤ (u.setCell ⟨A, k, none⟩ (.int .u32 y)).heap.size from ⟨h5, fun j hj => (World.cell?_of_block (w := u) (a := ⟨g, j, none⟩) (heap_setCell_other _ _ _ _ (by show g ≠ A; exact HG.out.1.1))).trans (H2.out.2.1 j hj), by simpa using H3.out⟩)
          clear h5 H2 H3 HF hbu H ck HN
          go_wp2_with fail
          go_roundw
          case rel => exact ⟨k + 1, by omega, by go_num, H5⟩
          case measure => simp [intOf]; omega
        · obtain rfl : k = 8 := by omega
          have hrA := H.out.1.rA
          rw [ibD_8] at hrA
          have H1 := Lib.hid (show Below w.heap.size w wr ∧ wr.heap[w.heap.size]? = some (.cells #[.int .u32 0, .int .u32 0, .int .u32 0, .int .u32 0, .int .u32 0, .int .u32 0, .int .u32 0, .int .u32 0] 39 (0, 0)) ∧ wr.heap[A]? = some (.cells (ar .u32 8 iniH) 39 (0, 0)) ∧ (∀ j, j < 64 → wr.cell? ⟨g, j, none⟩ = some (.int .u32 (kT j))) ∧ w.heap.size < g ∧ g < wr.heap.size from ⟨H.out.1.old, H.out.1.r0, hrA, H.out.2.1, HG.out.2.1.1, by have h1 := H.out.2.2; have h2 := HG.out.2.1.2; omega⟩)
          clear hrA H
          go_wp2_with fail
          refine region_quiet_tail 3 (fun wx => Below w.heap.size w wx ∧ wx.heap[w.heap.size]? = some (.cells #[.int .u32 0, .int .u32 0, .int .u32 0, .int .u32 0, .int .u32 0, .int .u32 0, .int .u32 0, .int .u32 0] 39 (0, 0)) ∧ wx.heap[A]? = some (.cells (ar .u32 8 iniH) 39 (0, 0)) ∧ (∀ j, j < 64 → wx.cell? ⟨g, j, none⟩ = some (.int .u32 (kT j))) ∧ w.heap.size < g ∧ g < wx.heap.size) (by kernel_rfl) (by kernel_rfl) ⟨H1.out.1.drew, H1.out.2.1, H1.out.2.2.1, fun j hj => (drew_cell _ _).trans (H1.out.2.2.2.1 j hj), H1.out.2.2.2.2⟩ ?_
          simp only [List.take_succ_cons, List.take_zero, List.drop_succ_cons, List.drop_zero]
          with_reducible refine q_val (.slice (some ⟨g, 0, none⟩) 64 c) (by kernel_rfl) (fun _ _ => by kernel_rfl) ?_
          with_reducible refine q_load 39 (.tmp 4) (.pointer (some ⟨A, 0, none⟩)) (.agg (ar .u32 8 iniH)) rfl (by kernel_rfl) (by kernel_rfl) (fun _ h => ld8 h.2.2.1) ?_
          with_reducible refine q_val (.slice (some ⟨g, 0, none⟩) 64 c) (by kernel_rfl) (fun _ _ => by kernel_rfl) ?_
          with_reducible refine wpQuiet_nil ?_
          intro w4 hC
          simp only [Act.put, List.setIfInBounds_toArray, List.set_cons_succ, List.set_cons_zero]
          have H4 := Lib.hid hC
          have HI : Hid ((Tryd.prog.info? 39).map (·.size) = some (ar .u32 8 iniH).size) := Lib.hid (by rw [ar_size]; exact info8a)
          clear hC H1
          go_wp2_with (refine wpList_store_row rfl 39 _ _ rfl w.heap.size (ar .u32 8 iniH) rfl rfl 39 _ H4.out.2.1 HI.out (by rw [ar_size]; rfl) (ar_one _ _ _) ?_)
          refine bodyPost_ret (v := .tuple #[.slice (some ⟨g, 0, none⟩) 64 c, .agg (ar .u32 8 iniH)]) (results_sc (p := 1) (q := 0) rfl _ _ w.heap.size (ar .u32 8 iniH) _ (0, 0) rfl rfl (setRow_heap _ _ _ _ _ _ H4.out.2.1) HI.out) rfl ⟨g, c, rfl, Nat.le_of_lt HG.out.2.1.1, by rw [setRow_size]; exact H4.out.2.2.2.2.2, HG.out.2.2, fun j hj => (World.cell?_of_block (w := w4) (a := ⟨g, j, none⟩) (setRow_other _ _ _ _ (by show g ≠ w.heap.size; have := H4.out.2.2.2.2.1; omega))).trans (H4.out.2.2.2.1 j hj), below_setRow H4.out.1 (Nat.le_refl _) _⟩
end Go.Proofs.YtkecehcnoihiiaaDoor
namespace Go.Proofs.YtkecehcnoihiiaaDoor
open Go.RowKit

/-- The worlds of sumOf: the digest at V behind m bytes. -/
structure CSo (w : World) (V m : Nat) (F : Nat → Nat) (wx : World) : Prop where
  old : Below w.heap.size w wx
  r0 : wx.heap[w.heap.size]? = some (.cells #[.int .u8 0, .int .u8 0, .int .u8 0, .int .u8 0, .int .u8 0, .int .u8 0, .int .u8 0, .int .u8 0, .int .u8 0, .int .u8 0, .int .u8 0, .int .u8 0, .int .u8 0, .int .u8 0, .int .u8 0, .int .u8 0, .int .u8 0, .int .u8 0, .int .u8 0, .int .u8 0, .int .u8 0, .int .u8 0, .int .u8 0, .int .u8 0, .int .u8 0, .int .u8 0, .int .u8 0, .int .u8 0, .int .u8 0, .int .u8 0, .int .u8 0, .int .u8 0] 25 (0, 0))
  hV : w.heap.size < V
  dg : DgAt wx V F m wx
set_option maxRecDepth 100000 in
set_option maxHeartbeats 4000000 in
-- WHAT sumOf COMES TO.
theorem hsumof {n P : Nat} {vs : Nat → Value} {off : Nat → Nat} {F : Nat → Nat} (hF : ∀ j, F j < 256) (h0 : off 0 = 0) (hle : ∀ i, i < n → off i ≤ off (i + 1)) (hto : ∀ i, i ≤ n → off i ≤ off n) (hb : off n + 72 < 1125899906842624) (hn : n < 1000) (w : World) (hT : STab w)
    (hP : ∀ i, i < n → w.cell? ⟨P, i, none⟩ = some (vs i)) (hA : ∀ i, i < n → ArgB w (vs i) (off (i + 1) - off i) (fun j => F (off i + j))) (hPl : P < w.heap.size) :
    Calls Tryd.prog 17 #[.slice (some ⟨P, 0, none⟩) n n] w fun e w' => e = .returned (.agg (ar .u8 32 (shaH F (off n)))) ∧ Below w.heap.size w w' := by
  have HQ := Lib.hid (And.intro hF (And.intro hle (And.intro hto (And.intro hb (And.intro hT (And.intro hP (And.intro hA hPl)))))))
  have hb1 : Below w.heap.size w (w.alloc (.cells #[.int .u8 0, .int .u8 0, .int .u8 0, .int .u8 0, .int .u8 0, .int .u8 0, .int .u8 0, .int .u8 0, .int .u8 0, .int .u8 0, .int .u8 0, .int .u8 0, .int .u8 0, .int .u8 0, .int .u8 0, .int .u8 0, .int .u8 0, .int .u8 0, .int .u8 0, .int .u8 0, .int .u8 0, .int .u8 0, .int .u8 0, .int .u8 0, .int .u8 0, .int .u8 0, .int .u8 0, .int .u8 0, .int .u8 0, .int .u8 0, .int .u8 0, .int .u8 0] 25)) := (Below.refl _ _).alloc (Nat.le_refl _) _
  have H1 := Lib.hid (And.intro hb1 (heap_alloc_new w (.cells #[.int .u8 0, .int .u8 0, .int .u8 0, .int .u8 0, .int .u8 0, .int .u8 0, .int .u8 0, .int .u8 0, .int .u8 0, .int .u8 0, .int .u8 0, .int .u8 0, .int .u8 0, .int .u8 0, .int .u8 0, .int .u8 0, .int .u8 0, .int .u8 0, .int .u8 0, .int .u8 0, .int .u8 0, .int .u8 0, .int .u8 0, .int .u8 0, .int .u8 0, .int .u8 0, .int .u8 0, .int .u8 0, .int .u8 0, .int .u8 0, .int .u8 0, .int .u8 0] 25)))
  have HN := Lib.hid hn
  have HZ := Lib.hid h0
  clear hF h0 hle hto hb hT hP hA hPl hb1 hn
  go_enter Tryd.func17, Tryd.ntmps17
  go_wp2_with fail
  refine (hnew _).mono ?_
  rintro e w1 ⟨V, rfl, hV, hb, hrow⟩
  have H2 := Lib.hid (show CSo w V (off 0) F w1 from ⟨H1.out.1.trans (hb.mono (by simp)), (hb.block _ (by simp)).trans H1.out.2, by simp at hV; omega, by rw [HZ.out]; exact dg_new F hrow⟩)
  clear hV hb hrow H1
  go_wp2_with fail
  go_loopw [9] (fun i wr => ∃ k : Nat, k ≤ n ∧ i = .int .i64 k ∧ Hid (CSo w V (off k) F wr)) (fun i _ => n - (intOf i).toNat)
  case atStart => exact ⟨0, by omega, rfl, H2⟩
  case round =>
    obtain ⟨k, hk, rfl, H⟩ := hrel
    clear H2
    have hk0 : (0 : Int) ≤ k := by omega
    have hk1 : k < 1000 := by have := HN.out; omega
    by_cases hlt : k < n
    · have hlt' : (k : Int) < n := by omega
      have HK := Lib.hid hlt
      obtain ⟨v, hv⟩ : ∃ v, vs k = v := ⟨_, rfl⟩
      have ck := (World.cell?_of_block (w := w) (a := ⟨P, k, none⟩) (H.out.old.block P HQ.out.2.2.2.2.2.2.2)).trans (HQ.out.2.2.2.2.2.1 k hlt)
      have hA := HQ.out.2.2.2.2.2.2.1 k hlt
      rw [hv] at ck hA
      obtain ⟨d, hd⟩ : ∃ d, off (k + 1) - off k = d := ⟨_, rfl⟩
      have hd2 : off k + d = off (k + 1) := by have := HQ.out.2.1 k hlt; omega
      rw [hd] at hA
      have hB := HQ.out.2.2.2.1
      have hto := HQ.out.2.2.1 (k + 1) hlt
      have HW := Lib.hid (hwrite (V := V) (m := off k) (n := d) (f := F) (v := v) (by omega) HQ.out.1 wr (HQ.out.2.2.2.2.1.below H.out.old) (sapt_of HQ.out.2.2.2.2.1 (Nat.le_of_lt H.out.hV)) (hA.below H.out.old)
        (fun a cap hv h0 b o hb => by
          have hV := H.out.hV
          obtain ⟨a', cap', hv', -, -, hr⟩ := hA
          rw [hv] at hv'
          injection hv' with e1 e2 e3
          rcases hr with hr | ⟨b', o', hr, hl, -⟩
          · omega
          · rw [← e1, hb] at hr
            injection hr with hr
            injection hr with hr
            omega) H.out.dg)
      rw [hd2] at HW
      have H3 := Lib.hid (And.intro H.out.old (And.intro H.out.r0 H.out.hV))
      clear hA hv hd hd2 hB hto H
      go_wp2_with fail
      refine HW.out.mono ?_
      rintro e w5 ⟨rfl, hd⟩
      have H4 := Lib.hid (show CSo w V (off (k + 1)) F w5 from ⟨hd.bt.below H3.out.1 (Nat.le_of_lt H3.out.2.2) H3.out.1.size, (hd.bt.block _ (by have := H3.out.2.2; omega) (Array.getElem?_eq_some_iff.1 H3.out.2.1).1).trans H3.out.2.1, H3.out.2.2, hd.base⟩)
      clear hd HW H3 ck
      go_wp2_with fail
      go_roundw
      case rel => exact ⟨k + 1, by omega, by go_num, H4⟩
      case measure => simp [intOf]; omega
    · obtain rfl : k = n := by omega
      obtain ⟨l, hl1, hl2, hx⟩ := H.out.dg
      have HFI := Lib.hid (hfinish HQ.out.2.2.2.1 HQ.out.1 hl2 hl1 wr (HQ.out.2.2.2.2.1.below H.out.old))
      obtain ⟨m, hm⟩ : ∃ m, off k = m := ⟨_, rfl⟩
      obtain ⟨g, hg⟩ : ∃ g, hB F (off k / 64) = g := ⟨_, rfl⟩
      have hrow := hx.row
      rw [hg] at HFI hrow
      rw [hm] at HFI hrow
      have HM := Lib.hid hm
      have HR := Lib.hid hrow
      have H1 := Lib.hid (And.intro H.out.old H.out.r0)
      have HI73 : Hid ((Tryd.prog.info? 49).map (·.size) = some (hr g (tlD l m)).size) := Lib.hid (by rw [dg_size]; exact info73)
      clear hg hx hl1 hl2 hrow H hm
      go_wp2_with (refine wpList_load_row rfl 49 _ rfl V rfl 49 _ (0, 0) _ HR.out Tryd.underlying49 rfl HI73.out ?_)
      refine HFI.out.mono ?_
      rintro e w6 ⟨rfl, hb6⟩
      have HB := Lib.hid (show Below w.heap.size w w6 ∧ w6.heap[w.heap.size]? = some (.cells #[.int .u8 0, .int .u8 0, .int .u8 0, .int .u8 0, .int .u8 0, .int .u8 0, .int .u8 0, .int .u8 0, .int .u8 0, .int .u8 0, .int .u8 0, .int .u8 0, .int .u8 0, .int .u8 0, .int .u8 0, .int .u8 0, .int .u8 0, .int .u8 0, .int .u8 0, .int .u8 0, .int .u8 0, .int .u8 0, .int .u8 0, .int .u8 0, .int .u8 0, .int .u8 0, .int .u8 0, .int .u8 0, .int .u8 0, .int .u8 0, .int .u8 0, .int .u8 0] 25 (0, 0)) from ⟨H1.out.1.trans (hb6.mono H1.out.1.size), (hb6.block _ (Array.getElem?_eq_some_iff.1 H1.out.2).1).trans H1.out.2⟩)
      obtain ⟨y, hy⟩ : ∃ y, shaH F m = y := ⟨_, rfl⟩
      have HE := Lib.hid (show shaH F (off k) = y by rw [HM.out]; exact hy)
      rw [hy]
      clear hb6 hy H1 HFI HR HI73
      have HI : Hid ((Tryd.prog.info? 25).map (·.size) = some (ar .u8 32 y).size) := Lib.hid (by rw [ar_size]; exact info32s)
      go_wp2_with (refine wpList_store_row rfl 25 _ _ rfl w.heap.size (ar .u8 32 y) rfl rfl 25 _ HB.out.2 HI.out (by rw [ar_size]; rfl) (ar_one _ _ _) ?_)
      refine bodyPost_ret (v := .agg (ar .u8 32 y)) (results_cell_row (p := 2) rfl _ _ w.heap.size 25 _ (0, 0) _ rfl (setRow_heap _ _ _ _ _ _ HB.out.2) Tryd.underlying25 rfl HI.out) rfl ⟨by rw [HE.out], below_setRow HB.out.1 (Nat.le_refl _) _⟩
set_option maxRecDepth 100000 in
set_option maxHeartbeats 4000000 in
-- WHAT Sum COMES TO.
theorem hsum {n : Nat} {f : Nat → Nat} {v : Value} (hn : n + 72 < 1125899906842624) (hf : ∀ j, f j < 256) (w : World) (hT : STab w) (hA : ArgB w v n f) :
    Calls Tryd.prog 8 #[v] w fun e w' => e = .returned (.agg (ar .u8 32 (shaH f n))) ∧ Below w.heap.size w w' := by
  have hA' := hA
  obtain ⟨a, cap, rfl, -⟩ := hA'
  have hb1 : Below w.heap.size w (w.alloc (.cells #[.int .u8 0, .int .u8 0, .int .u8 0, .int .u8 0, .int .u8 0, .int .u8 0, .int .u8 0, .int .u8 0, .int .u8 0, .int .u8 0, .int .u8 0, .int .u8 0, .int .u8 0, .int .u8 0, .int .u8 0, .int .u8 0, .int .u8 0, .int .u8 0, .int .u8 0, .int .u8 0, .int .u8 0, .int .u8 0, .int .u8 0, .int .u8 0, .int .u8 0, .int .u8 0, .int .u8 0, .int .u8 0, .int .u8 0, .int .u8 0, .int .u8 0, .int .u8 0] 25)) := (Below.refl _ _).alloc (Nat.le_refl _) _
  have hb2 : Below w.heap.size w ((w.alloc (.cells #[.int .u8 0, .int .u8 0, .int .u8 0, .int .u8 0, .int .u8 0, .int .u8 0, .int .u8 0, .int .u8 0, .int .u8 0, .int .u8 0, .int .u8 0, .int .u8 0, .int .u8 0, .int .u8 0, .int .u8 0, .int .u8 0, .int .u8 0, .int .u8 0, .int .u8 0, .int .u8 0, .int .u8 0, .int .u8 0, .int .u8 0, .int .u8 0, .int .u8 0, .int .u8 0, .int .u8 0, .int .u8 0, .int .u8 0, .int .u8 0, .int .u8 0, .int .u8 0] 25)).alloc (.cells #[.slice a n cap] 22)) := hb1.alloc (by simp) _
  have hn2 := heap_alloc_new (w.alloc (.cells #[.int .u8 0, .int .u8 0, .int .u8 0, .int .u8 0, .int .u8 0, .int .u8 0, .int .u8 0, .int .u8 0, .int .u8 0, .int .u8 0, .int .u8 0, .int .u8 0, .int .u8 0, .int .u8 0, .int .u8 0, .int .u8 0, .int .u8 0, .int .u8 0, .int .u8 0, .int .u8 0, .int .u8 0, .int .u8 0, .int .u8 0, .int .u8 0, .int .u8 0, .int .u8 0, .int .u8 0, .int .u8 0, .int .u8 0, .int .u8 0, .int .u8 0, .int .u8 0] 25)) (.cells #[.slice a n cap] 22)
  have hs : (w.alloc (.cells #[.int .u8 0, .int .u8 0, .int .u8 0, .int .u8 0, .int .u8 0, .int .u8 0, .int .u8 0, .int .u8 0, .int .u8 0, .int .u8 0, .int .u8 0, .int .u8 0, .int .u8 0, .int .u8 0, .int .u8 0, .int .u8 0, .int .u8 0, .int .u8 0, .int .u8 0, .int .u8 0, .int .u8 0, .int .u8 0, .int .u8 0, .int .u8 0, .int .u8 0, .int .u8 0, .int .u8 0, .int .u8 0, .int .u8 0, .int .u8 0, .int .u8 0, .int .u8 0] 25)).heap.size = w.heap.size + 1 := by simp
  rw [hs] at hn2
  have HS := Lib.hid (hsumof (n := 1) (P := w.heap.size + 1) (vs := fun _ => .slice a n cap) (off := fun i => i * n) (F := f) hf (Nat.zero_mul _) (fun i hi => by show i * n ≤ (i + 1) * n; exact Nat.mul_le_mul_right _ (by omega)) (fun i hi => by show i * n ≤ 1 * n; exact Nat.mul_le_mul_right _ hi) (by show 1 * n + 72 < _; omega) (by decide) ((w.alloc (.cells #[.int .u8 0, .int .u8 0, .int .u8 0, .int .u8 0, .int .u8 0, .int .u8 0, .int .u8 0, .int .u8 0, .int .u8 0, .int .u8 0, .int .u8 0, .int .u8 0, .int .u8 0, .int .u8 0, .int .u8 0, .int .u8 0, .int .u8 0, .int .u8 0, .int .u8 0, .int .u8 0, .int .u8 0, .int .u8 0, .int .u8 0, .int .u8 0, .int .u8 0, .int .u8 0, .int .u8 0, .int .u8 0, .int .u8 0, .int .u8 0, .int .u8 0, .int .u8 0] 25)).alloc (.cells #[.slice a n cap] 22)) (hT.below hb2)
    (fun i hi => by
      have e : i = 0 := by omega
      subst e
      exact cell_of_row _ _ 0 _ _ _ hn2)
    (fun i hi => by
      have e : i = 0 := by omega
      subst e
      show ArgB _ (.slice a n cap) ((0 + 1) * n - 0 * n) (fun j => f (0 * n + j))
      rw [show (0 + 1) * n - 0 * n = n by omega]
      simp only [Nat.zero_mul, Nat.zero_add]
      exact hA.below hb2) (by simp))
  simp only [Nat.one_mul] at HS
  have H1 := Lib.hid (show Below w.heap.size w ((w.alloc (.cells #[.int .u8 0, .int .u8 0, .int .u8 0, .int .u8 0, .int .u8 0, .int .u8 0, .int .u8 0, .int .u8 0, .int .u8 0, .int .u8 0, .int .u8 0, .int .u8 0, .int .u8 0, .int .u8 0, .int .u8 0, .int .u8 0, .int .u8 0, .int .u8 0, .int .u8 0, .int .u8 0, .int .u8 0, .int .u8 0, .int .u8 0, .int .u8 0, .int .u8 0, .int .u8 0, .int .u8 0, .int .u8 0, .int .u8 0, .int .u8 0, .int .u8 0, .int .u8 0] 25)).alloc (.cells #[.slice a n cap] 22)) ∧ ((w.alloc (.cells #[.int .u8 0, .int .u8 0, .int .u8 0, .int .u8 0, .int .u8 0, .int .u8 0, .int .u8 0, .int .u8 0, .int .u8 0, .int .u8 0, .int .u8 0, .int .u8 0, .int .u8 0, .int .u8 0, .int .u8 0, .int .u8 0, .int .u8 0, .int .u8 0, .int .u8 0, .int .u8 0, .int .u8 0, .int .u8 0, .int .u8 0, .int .u8 0, .int .u8 0, .int .u8 0, .int .u8 0, .int .u8 0, .int .u8 0, .int .u8 0, .int .u8 0, .int .u8 0] 25)).alloc (.cells #[.slice a n cap] 22)).heap[w.heap.size]? = some (.cells #[.int .u8 0, .int .u8 0, .int .u8 0, .int .u8 0, .int .u8 0, .int .u8 0, .int .u8 0, .int .u8 0, .int .u8 0, .int .u8 0, .int .u8 0, .int .u8 0, .int .u8 0, .int .u8 0, .int .u8 0, .int .u8 0, .int .u8 0, .int .u8 0, .int .u8 0, .int .u8 0, .int .u8 0, .int .u8 0, .int .u8 0, .int .u8 0, .int .u8 0, .int .u8 0, .int .u8 0, .int .u8 0, .int .u8 0, .int .u8 0, .int .u8 0, .int .u8 0] 25 (0, 0)) from ⟨hb2, (heap_alloc_old _ _ (by simp)).trans (heap_alloc_new _ _)⟩)
  clear hT hA hb1 hb2 hn2 hs hf hn
  go_enter Tryd.func8, Tryd.ntmps8
  go_wp2_with fail
  refine HS.out.mono ?_
  rintro e w6 ⟨rfl, hb6⟩
  have HB := Lib.hid (show Below w.heap.size w w6 ∧ w6.heap[w.heap.size]? = some (.cells #[.int .u8 0, .int .u8 0, .int .u8 0, .int .u8 0, .int .u8 0, .int .u8 0, .int .u8 0, .int .u8 0, .int .u8 0, .int .u8 0, .int .u8 0, .int .u8 0, .int .u8 0, .int .u8 0, .int .u8 0, .int .u8 0, .int .u8 0, .int .u8 0, .int .u8 0, .int .u8 0, .int .u8 0, .int .u8 0, .int .u8 0, .int .u8 0, .int .u8 0, .int .u8 0, .int .u8 0, .int .u8 0, .int .u8 0, .int .u8 0, .int .u8 0, .int .u8 0] 25 (0, 0)) from ⟨H1.out.1.trans (hb6.mono H1.out.1.size), (hb6.block _ (Array.getElem?_eq_some_iff.1 H1.out.2).1).trans H1.out.2⟩)
  obtain ⟨y, hy⟩ : ∃ y, shaH f n = y := ⟨_, rfl⟩
  have HE := Lib.hid hy
  rw [hy]
  clear hb6 hy H1 HS
  have HI : Hid ((Tryd.prog.info? 25).map (·.size) = some (ar .u8 32 y).size) := Lib.hid (by rw [ar_size]; exact info32s)
  go_wp2_with (refine wpList_store_row rfl 25 _ _ rfl w.heap.size (ar .u8 32 y) rfl rfl 25 _ HB.out.2 HI.out (by rw [ar_size]; rfl) (ar_one _ _ _) ?_)
  refine bodyPost_ret (v := .agg (ar .u8 32 y)) (results_cell_row (p := 2) rfl _ _ w.heap.size 25 _ (0, 0) _ rfl (setRow_heap _ _ _ _ _ _ HB.out.2) Tryd.underlying25 rfl HI.out) rfl ⟨by rw [HE.out], below_setRow HB.out.1 (Nat.le_refl _) _⟩
end Go.Proofs.YtkecehcnoihiiaaDoor
namespace Go.Proofs.YtkecehcnoihiiaaDoor
open Go

section
variable {P : Program} {ops : Array Oper} {md : Region.Mode} {C : World → Prop}

/-- Every operation of the head but the first is waited for by a later one of the head, or by the tail's first. -/
def sink1 (md : Region.Mode) (ops : Array Oper) (n : Nat) : Bool :=
  (List.range n).all fun i => i == 0 || ((List.range (n + 1)).any fun j => decide (i < j) && Region.waitsFor md ops j i)

theorem waits1 {n : Nat} {listed : Array Bool} (hs : sink1 md ops n = true) (hc : Region.chainB md ops n = true) (hn : n < ops.size) (inv : HeadInv md ops n listed) :
    ∀ (d i : Nat), n - i = d → 0 < i → i < n → listed.getD i true = false → ∀ t, n ≤ t → t ∉ Region.ready md ops listed := by
  intro d
  induction d using Nat.strongRecOn with
  | _ d ih =>
    intro i hd h0 hi hun t ht hr
    obtain ⟨-, ot, hot, hall⟩ := mem_ready.1 hr
    have stuck : ∀ j oj, ops[j]? = some oj → (∀ e ∈ oj.after, Region.binds md e = true → listed.getD e.on false = true) → Region.waitsFor md ops j i = true → False := fun j oj hj h hw => by
      obtain ⟨o', ho', e, he, hb, hon⟩ := Region.waitsFor_spec hw
      cases Option.some.inj (ho'.symm.trans hj)
      have := h e he hb
      rw [hon, getD_both hun] at this
      cases this
    rcases Nat.eq_or_lt_of_le ht with rfl | hlt
    · have h1 := List.all_eq_true.1 hs i (List.mem_range.2 hi)
      simp only [Bool.or_eq_true, beq_iff_eq, show ¬ i = 0 by omega, false_or] at h1
      obtain ⟨j, hj, hj2⟩ := List.any_eq_true.1 h1
      simp only [Bool.and_eq_true, decide_eq_true_eq] at hj2
      have hjn : j < n + 1 := List.mem_range.1 hj
      by_cases e : j = n
      · subst e
        exact stuck _ ot hot hall hj2.2
      · obtain ⟨oj, hoj, -⟩ := Region.waitsFor_spec hj2.2
        cases hl : listed.getD j false with
        | true => exact stuck j oj hoj (inv.closed j oj hoj hl) hj2.2
        | false => exact ih (n - j) (by omega) j rfl (by omega) (by omega) (getD_in (by rw [inv.size]; omega) hl) n (Nat.le_refl _) hr
    · have htl : t < ops.size := (Array.getElem?_eq_some_iff.1 hot).1
      have h1 := List.all_eq_true.1 hc t (List.mem_range.2 htl)
      simp only [Bool.or_eq_true, decide_eq_true_eq, show ¬ t ≤ n by omega, false_or] at h1
      obtain ⟨o', ho', e, he, hb, hon⟩ := Region.waitsFor_spec h1
      cases Option.some.inj (ho'.symm.trans hot)
      have := hall e he hb
      rw [hon, getD_both (inv.tail (t - 1) (by omega) (by omega))] at this
      cases this

theorem head_first1 {n i : Nat} {oi : Oper} {v : Value} {L : Array Bool → Act → Prop} (hi : ops[i]? = some oi) (hsel : ∀ (j : Nat) (o : Oper) cs b, ops[j]? = some o → o.op ≠ .select cs b)
    (hs : sink1 md ops n = true) (hc : Region.chainB md ops n = true) (hn : n < ops.size) (hin : i < n) (hi0 : 0 < i)
    (hdone : ∀ listed a, L listed a → ∀ j ∈ Region.ready md ops listed, n ≤ j) :
    ∀ (f : Nat) (listed : Array Bool) (a : Act), HeadInv md ops n listed →
      (∀ j oj, ops[j]? = some oj → j ≠ i → listed.getD j true = false → (∀ e ∈ oj.after, Region.binds md e = true → e.on ≠ i) → oi.apart ops oj = true) →
      i ∈ Region.ready md ops listed → YieldsIn P ops C oi v a →
      anyHead P md ops C n L f (listed.setIfInBounds i true) (a.put oi.dst v) → anyHead P md ops C n L (f + 1) listed a := by
  intro f
  induction f with
  | zero =>
    intro listed a inv _ hr hy H
    have hun := (mem_ready.1 hr).1
    refine ⟨fun h => (by rw [h] at hr; cases hr), fun j hj => ?_⟩
    have hjn : j < n := by
      rcases Nat.lt_or_ge j n with h | h
      · exact h
      · exact absurd hj (waits1 hs hc hn inv _ i rfl hi0 hin hun j h)
    refine ⟨hjn, ?_⟩
    by_cases hji : j = i
    · subst hji; exact hy.qOp hi H
    · have := hdone _ _ H j (ready_mono hj hji)
      omega
  | succ f ih =>
    intro listed a inv hfree hr hy H
    have hun := (mem_ready.1 hr).1
    refine ⟨fun h => (by rw [h] at hr; cases hr), fun j hj => ?_⟩
    have hjn : j < n := by
      rcases Nat.lt_or_ge j n with h | h
      · exact h
      · exact absurd hj (waits1 hs hc hn inv _ i rfl hi0 hin hun j h)
    refine ⟨hjn, ?_⟩
    by_cases hji : j = i
    · subst hji; exact hy.qOp hi H
    · have h1 := (H.2 j (ready_mono hj hji)).2
      obtain ⟨hjun, oj, hoj, hall⟩ := mem_ready.1 hj
      have hnot : ∀ e ∈ oj.after, Region.binds md e = true → e.on ≠ i := fun e he hb heq => by
        have h1 := hall e he hb
        rw [heq, getD_both hun] at h1
        cases h1
      have h2 := qOp_put hoj (hfree j oj hoj hji hjun hnot) (fun cs b => hsel i oi cs b hi) (fun cs b => hsel j oj cs b hoj) hy h1
      have hfree' : ∀ k ok, ops[k]? = some ok → k ≠ i → (listed.setIfInBounds j true).getD k true = false →
          (∀ e ∈ ok.after, Region.binds md e = true → e.on ≠ i) → oi.apart ops ok = true := fun k ok hk hki hun hno => by
        refine hfree k ok hk hki ?_ hno
        by_cases hjk : j = k
        · subst hjk; exact hjun
        · rw [getD_set_ne true hjk] at hun; exact hun
      refine qOp_mono (fun a' h3 => ih (listed.setIfInBounds j true) a' (inv.set hj hjn) hfree' (ready_mono hr (Ne.symm hji)) h3.1 ?_) h2
      rw [Array.setIfInBounds_comm _ _ hji]
      exact h3.2

theorem head_lex1 {n g : Nat} {Lq : Act → Prop} (hsel : Region.noSelect ops = true) (hs : sink1 md ops n = true) (hc : Region.chainB md ops n = true) (hn : n < ops.size) :
    ∀ (l : List Oper) (k : Nat) (listed : Array Bool) (a : Act), 0 < k → (∀ j, j < l.length → l[j]? = ops[k + j]?) → k + l.length = n → HeadInv md ops n listed →
    Region.lexHead md ops g l.length k listed = true → wpQuiet P ops C Lq l a →
    anyHead P md ops C n (fun listed' a' => Region.seqB md ops g n listed' = true ∧ Lq a') l.length listed a
  | [], k, listed, a, _, _, hk, _, hB, h => by
    have : k = n := by simpa using hk
    subst this
    exact ⟨by simpa [Region.lexHead] using hB, h⟩
  | o :: l, k, listed, a, h0k, hl, hk, inv, hB, h => by
    have h0 : ops[k]? = some o := by simpa using (hl 0 (by simp)).symm
    simp only [List.length_cons, Region.lexHead, Bool.and_eq_true] at hB
    obtain ⟨⟨hr, hf⟩, hB'⟩ := hB
    have hkn : k < n := by simp only [List.length_cons] at hk; omega
    have hr' : k ∈ Region.ready md ops listed := by simpa using hr
    have hst : qOp P ops C k (wpQuiet P ops C Lq l) a := by unfold qOp; simp only [h0]; exact h
    obtain ⟨v, hy, hK⟩ := yieldsIn_of_qOp h0 hst
    exact head_first1 h0 (Region.noSelect_spec hsel) hs hc hn hkn h0k (fun listed' a' hL => seqB_ready hL.1) l.length listed a inv (Region.free_spec h0 hf) hr' hy
      (head_lex1 hsel hs hc hn l (k + 1) _ _ (by omega) (fun j hj => by have := hl (j + 1) (by simp; omega); simpa [Nat.add_assoc, Nat.add_comm 1 j] using this) (by simp only [List.length_cons] at hk; omega) (inv.set hr' hkn) hB' hK)

/-- What is asked of the region's edges. -/
def lexTail1 (md : Region.Mode) (ops : Array Oper) (n : Nat) : Bool :=
  Region.noSelect ops && decide (n < ops.size) && sink1 md ops n && Region.chainB md ops n && (Region.ready md ops (Array.replicate ops.size false)).contains 0 && Region.free md ops (Array.replicate ops.size false) 0
    && Region.lexHead md ops (ops.size - n) (n - 1) 1 ((Array.replicate ops.size false).setIfInBounds 0 true)

/-- THE LAW: the first operation, a quiet head over a class of worlds, then a tail in the text's order, from any world of the class. -/
theorem region_move_tail {id : Nat} {Q : Exit → Act → World → Prop} {a : Act} {w : World} {o : Oper} {l : List Oper} (n : Nat) (C : World → Prop) (v : Value) (hm : P.follows .mixedOrders = true) (hB : lexTail1 .any (o :: l).toArray (n + 1) = true) (hC : C w.drew)
    (hQ : ∀ c a w, Q (.panic c) (a.put o.dst v) w → Q (.panic c) a w) (hy : Yields P (o :: l).toArray o v a)
    (h : wpQuiet P (o :: l).toArray C (fun a' => ∀ w', C w' → wpList P (o :: l).toArray Q (l.drop n) a' w') (l.take n) (a.put o.dst v)) : (Code.region id (o :: l).toArray true).wp P Q a w := by
  simp only [lexTail1, Bool.and_eq_true, decide_eq_true_eq] at hB
  obtain ⟨⟨⟨⟨⟨⟨hsel, hn⟩, hs⟩, hc⟩, hr⟩, hf⟩, hlex⟩ := hB
  have hsz : (o :: l).toArray.size = l.length + 1 := by simp
  have hn' : n < l.length := by rw [hsz] at hn; omega
  have htl : (l.take n).length = n := by rw [List.length_take]; omega
  have hdl : (l.drop n).length = (o :: l).toArray.size - (n + 1) := by rw [List.length_drop, hsz]; omega
  have h0 : (o :: l).toArray[0]? = some o := by simp
  have hr' : 0 ∈ Region.ready .any (o :: l).toArray (Array.replicate (o :: l).toArray.size false) := by simpa using hr
  have inv0 : HeadInv .any (o :: l).toArray (n + 1) (Array.replicate (o :: l).toArray.size false) :=
    ⟨by simp, fun j oj _ hl => (by rw [getD_replicate_false] at hl; cases hl), fun t _ ht => getD_in (by simpa using ht) (getD_replicate_false _ _)⟩
  have inv1 := inv0.set hr' (by omega)
  have H := head_lex1 (md := .any) (g := (o :: l).toArray.size - (n + 1)) hsel hs hc hn (l.take n) 1 _ (a.put o.dst v) (by omega) (fun j hj => by
    have hj' : j < n := by rw [htl] at hj; exact hj
    simp [hj', Nat.add_comm 1 j]) (by rw [htl]; omega) inv1 (by rw [htl]; exact hlex) h
  refine wp_region_any hm ?_
  have K := any_of_head (Q' := Q) (g := (o :: l).toArray.size - (n + 1)) (fun listed a' w' hw' hL => by
    have := wpAny_of_seq (md := .any) (Q' := Q) (l.drop n) (n + 1) listed a' w' (fun j => by
      rw [List.getElem?_drop, show n + 1 + j = (n + j) + 1 by omega]
      simp) (by rw [hdl]; exact hL.1) (hL.2 w' hw')
    rwa [hdl] at this) _ _ _ w.drew hC H
  rw [htl, show n + ((o :: l).toArray.size - (n + 1)) = l.length by rw [hsz]; omega] at K
  rw [hsz]
  rw [hsz] at hf hr K
  exact wpAny_take h0 hsel hf hr hQ hy K
end
end Go.Proofs.YtkecehcnoihiiaaDoor

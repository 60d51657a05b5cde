/- Slices of digits of 16 bits, their numbers. -/
import Derived.Test.YtoeomlmnejhgpaaDoorProg
import Derived.WalkKit
import Derived.WalkSpells
import Derived.WalkLawsBesides
import Derived.LoopN
import Derived.Handy
import Derived.Outline
import Derived.RegionTactic
import Derived.BigRegion
import Derived.BigQuiet
import Derived.WalkSmall
import Derived.OwnWalk
import Derived.Lib.Hide
import Derived.Laws.Rows
import Derived.Laws.Tables
import Derived.Laws.CopyOwn
import Derived.Maps.AppendAt
import Derived.Deep.LoopGhost
import Derived.Laws.Bits64b
import Derived.Laws.OwnMore
import Derived.Deep.AppendLies
namespace Go.Proofs.YtoeomlmnejhgpaaDoor
open Go.RowKit

/-- The number of n digits of 16 bits. -/
def vd (d : Nat → Nat) : Nat → Nat
  | 0 => 0
  | n + 1 => vd d n + 65536 ^ n * d n
theorem vd_congr {d e : Nat → Nat} {n : Nat} (h : ∀ j, j < n → d j = e j) : vd d n = vd e n := by
  induction n with
  | zero => rfl
  | succ n ih => simp only [vd]; rw [ih (fun j hj => h j (by omega)), h n (by omega)]
theorem vd_lt {d : Nat → Nat} {n : Nat} (h : ∀ j, j < n → d j < 65536) : vd d n < 65536 ^ n := by
  induction n with
  | zero => simp [vd]
  | succ n ih =>
    have h1 := ih (fun j hj => h j (by omega))
    have h2 : 65536 ^ n * d n ≤ 65536 ^ n * 65535 := Nat.mul_le_mul_left _ (by have := h n (by omega); omega)
    simp only [vd]
    rw [Nat.pow_succ]
    omega
theorem vd_mod (X n : Nat) : vd (fun j => X / 65536 ^ j % 65536) n = X % 65536 ^ n := by
  induction n with
  | zero => simp [vd, Nat.mod_one]
  | succ n ih => simp only [vd]; rw [ih, Nat.pow_succ, Nat.mod_mul]
/-- Digits, and noughts behind them. -/
def pad (d : Nat → Nat) (n j : Nat) : Nat := if j < n then d j else 0
theorem vd_pad (d : Nat → Nat) (n k : Nat) (h : n ≤ k) : vd (pad d n) k = vd d n := by
  induction k with
  | zero =>
    obtain rfl : n = 0 := by omega
    rfl
  | succ k ih =>
    by_cases e : n = k + 1
    · subst e; exact vd_congr (fun j hj => by simp [pad, hj])
    · simp only [vd]
      rw [ih (by omega), show pad d n k = 0 by simp [pad]; omega]
      simp

/-- Digits as cells. -/
def dl (d : Nat → Nat) (n : Nat) : List Value := (List.range n).map fun j => .int .u64 (d j : Nat)
theorem dl_len (d : Nat → Nat) (n : Nat) : (dl d n).length = n := by simp [dl]
theorem dl_at (d : Nat → Nat) (n j : Nat) (h : j < n) : (dl d n)[j]? = some (.int .u64 (d j : Nat)) := by simp [dl, h]
/-- One digit more. -/
def upd (d : Nat → Nat) (k y j : Nat) : Nat := if j = k then y else d j
theorem dl_snoc (d : Nat → Nat) (k y : Nat) : dl d k ++ [.int .u64 (y : Nat)] = dl (upd d k y) (k + 1) := by
  unfold dl
  rw [List.range_succ, List.map_append]
  congr 1
  · apply List.map_congr_left
    intro j hj
    have : j < k := by simpa using hj
    simp [upd, show ¬ j = k by omega]
  · simp [upd]
theorem upd_lt {d : Nat → Nat} {k y : Nat} (h : ∀ j, j < k → d j < 65536) (hy : y < 65536) : ∀ j, j < k + 1 → upd d k y j < 65536 := fun j hj => by
  unfold upd
  by_cases e : j = k
  · simp [e, hy]
  · simp only [e, if_false]; exact h j (by omega)
theorem vd_upd (d : Nat → Nat) (k y : Nat) : vd (upd d k y) (k + 1) = vd d k + 65536 ^ k * y := by
  simp only [vd]
  rw [vd_congr (d := upd d k y) (e := d) (fun j hj => by simp [upd, show ¬ j = k by omega])]
  simp [upd]

/-- A slice of digits that lies in block b. -/
def Dg (w : World) (b n : Nat) (d : Nat → Nat) : Prop := b < w.heap.size ∧ ∀ j, j < n → w.cell? ⟨b, j, none⟩ = some (.int .u64 (d j : Nat))
theorem Dg.below {w w' : World} {b n : Nat} {d : Nat → Nat} (h : Dg w b n d) (hb : Below w.heap.size w w') : Dg w' b n d :=
  ⟨Nat.lt_of_lt_of_le h.1 hb.size, fun j hj => (hb.cell (p := ⟨b, j, none⟩) h.1).trans (h.2 j hj)⟩
/-- What a call that makes n digits leaves, their number V. -/
def MkDg (n V : Nat) (w : World) (e : Ending) (w' : World) : Prop :=
  ∃ (b cap : Nat) (d : Nat → Nat), e = .returned (.slice (some ⟨b, 0, none⟩) n cap) ∧ w.heap.size ≤ b ∧ Dg w' b n d ∧ (∀ j, j < n → d j < 65536) ∧ vd d n = V ∧ Below w.heap.size w w'

theorem info22 : (Tryd.prog.info? 34).map (fun i => (i.zero, i.size, i.bytes)) = some (some (.int .u64 0), 1, 8) := by kernel_rfl

/-- What a round that appends one digit leaves. -/
theorem push_rel {w wr w1 : World} {base : Nat} {v v' X : Value} {k y : Nat} {ns : Nat → Nat} (hown : wr.ownsRow base 34 1 v k (dl ns k)) (hb : Below base w wr) (hsz : base ≤ wr.heap.size)
    (hown' : w1.ownsRow base 34 1 v' (k + 1) (dl ns k ++ [.int .u64 (y : Nat)])) (hgrow : (wr.alloc (.cells #[X] 34)).grownBy w1 v.ownBlock) :
    w1.ownsRow base 34 1 v' (k + 1) (dl (upd ns k y) (k + 1)) ∧ Below base w w1 := by
  rw [dl_snoc] at hown'
  exact ⟨hown', (hb.alloc hsz _).grown hgrow (by simp; omega) (fun j hj => (hown.lt j hj).1)⟩

theorem made_of {w w' : World} {base : Nat} {v : Value} {n : Nat} {d : Nat → Nat} (hbs : w.heap.size ≤ base) (h : w'.ownsRow base 34 1 v n (dl d n)) (hn : 0 < n) (hd : ∀ j, j < n → d j < 65536) (hb : Below w.heap.size w w') : MkDg n (vd d n) w (.returned v) w' := by
  obtain ⟨hl, h1⟩ := h
  rcases h1 with ⟨-, h0⟩ | ⟨g, cap, cur, rfl, hg, hc, hnc, hm, hcs, ht⟩
  · omega
  · refine ⟨g, cap, d, rfl, Nat.le_trans hbs hg, ⟨(Array.getElem?_eq_some_iff.1 hc).1, fun j hj => ?_⟩, hd, rfl, hb⟩
    rw [cell_of_row _ _ _ _ _ _ hc, ← dl_at d n j hj, ← ht]
    simp only [Nat.mul_one, List.getElem?_take, hj, if_true]
    simp

theorem and_low16 (z : Nat) (h : z < 18446744073709551616) : bits .and .u64 z 65535 = ((z % 65536 : Nat) : Int) := by
  have := bits_and_u64_nat z 65535 h (by omega)
  rw [show z &&& 65535 = z % 65536 from Nat.and_two_pow_sub_one_eq_mod z 16] at this
  exact this
end Go.Proofs.YtoeomlmnejhgpaaDoor

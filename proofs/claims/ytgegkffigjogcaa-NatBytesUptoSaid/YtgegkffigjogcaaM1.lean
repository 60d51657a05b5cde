/- DERIVED: THE SHELF's CONTRACTS AT THIS DUMP, IN PLAIN WORDS (tools/lay-plain.mjs out of 'TryShelf.lean', which tools/lay-shelf.mjs wrote): THE SAME DECLARATIONS UNDER THE SAME NAMES: 'import', 'namespace', 'open', 'def', 'theorem' AND NOTHING ELSE: no command of the shelf's: FOR A HAND-IN. Each laying: the table of numbers ('.._ren') and one theorem, a field a fact of the dump's own or the kernel's comparison; each contract: ONE APPLICATION. (With it, merged: Dg · NNum · NBase · NLeaf · NWrite · NTimes · Shelf.) -/
import Derived.Test.YtgegkffigjogcaaProg
import Derived.WalkKit
import Derived.WalkSpells
import Derived.WalkLawsBesides
import Derived.LoopN
import Derived.Handy
import Derived.Outline
import Derived.RegionTactic
import Derived.BigRegion
import Derived.BigQuiet
import Derived.WalkSmall
import Derived.OwnWalk
import Derived.Lib.Hide
import Derived.Laws.Rows
import Derived.Laws.Tables
import Derived.Laws.CopyOwn
import Derived.Maps.AppendAt
import Derived.Deep.LoopGhost
import Derived.Laws.Bits64b
import Derived.Laws.OwnMore
import Derived.Deep.AppendLies
import Derived.Laws.AppendOwnNone
import Derived.Deep.QuietTactic
import Derived.Lib.SliceRun
import Derived.Shelf.Small.Bits
import Derived.Shelf.Strconv.Itoa0
namespace Go.Proofs.Ytgegkffigjogcaa
open Go.RowKit

/-- The number of n digits of 16 bits. -/
def vd (d : Nat → Nat) : Nat → Nat
  | 0 => 0
  | n + 1 => vd d n + 65536 ^ n * d n
theorem vd_congr {d e : Nat → Nat} {n : Nat} (h : ∀ j, j < n → d j = e j) : vd d n = vd e n := by
  induction n with
  | zero => rfl
  | succ n ih => simp only [vd]; rw [ih (fun j hj => h j (by omega)), h n (by omega)]
theorem vd_lt {d : Nat → Nat} {n : Nat} (h : ∀ j, j < n → d j < 65536) : vd d n < 65536 ^ n := by
  induction n with
  | zero => simp [vd]
  | succ n ih =>
    have h1 := ih (fun j hj => h j (by omega))
    have h2 : 65536 ^ n * d n ≤ 65536 ^ n * 65535 := Nat.mul_le_mul_left _ (by have := h n (by omega); omega)
    simp only [vd]
    rw [Nat.pow_succ]
    omega
theorem vd_mod (X n : Nat) : vd (fun j => X / 65536 ^ j % 65536) n = X % 65536 ^ n := by
  induction n with
  | zero => simp [vd, Nat.mod_one]
  | succ n ih => simp only [vd]; rw [ih, Nat.pow_succ, Nat.mod_mul]
/-- Digits, and noughts behind them. -/
def pad (d : Nat → Nat) (n j : Nat) : Nat := if j < n then d j else 0
theorem vd_pad (d : Nat → Nat) (n k : Nat) (h : n ≤ k) : vd (pad d n) k = vd d n := by
  induction k with
  | zero =>
    obtain rfl : n = 0 := by omega
    rfl
  | succ k ih =>
    by_cases e : n = k + 1
    · subst e; exact vd_congr (fun j hj => by simp [pad, hj])
    · simp only [vd]
      rw [ih (by omega), show pad d n k = 0 by simp [pad]; omega]
      simp

/-- Digits as cells. -/
def dl (d : Nat → Nat) (n : Nat) : List Value := (List.range n).map fun j => .int .u64 (d j : Nat)
theorem dl_len (d : Nat → Nat) (n : Nat) : (dl d n).length = n := by simp [dl]
theorem dl_at (d : Nat → Nat) (n j : Nat) (h : j < n) : (dl d n)[j]? = some (.int .u64 (d j : Nat)) := by simp [dl, h]
/-- One digit more. -/
def upd (d : Nat → Nat) (k y j : Nat) : Nat := if j = k then y else d j
theorem dl_snoc (d : Nat → Nat) (k y : Nat) : dl d k ++ [.int .u64 (y : Nat)] = dl (upd d k y) (k + 1) := by
  unfold dl
  rw [List.range_succ, List.map_append]
  congr 1
  · apply List.map_congr_left
    intro j hj
    have : j < k := by simpa using hj
    simp [upd, show ¬ j = k by omega]
  · simp [upd]
theorem upd_lt {d : Nat → Nat} {k y : Nat} (h : ∀ j, j < k → d j < 65536) (hy : y < 65536) : ∀ j, j < k + 1 → upd d k y j < 65536 := fun j hj => by
  unfold upd
  by_cases e : j = k
  · simp [e, hy]
  · simp only [e, if_false]; exact h j (by omega)
theorem vd_upd (d : Nat → Nat) (k y : Nat) : vd (upd d k y) (k + 1) = vd d k + 65536 ^ k * y := by
  simp only [vd]
  rw [vd_congr (d := upd d k y) (e := d) (fun j hj => by simp [upd, show ¬ j = k by omega])]
  simp [upd]

/-- A slice of digits that lies in block b. -/
def Dg (w : World) (b n : Nat) (d : Nat → Nat) : Prop := b < w.heap.size ∧ ∀ j, j < n → w.cell? ⟨b, j, none⟩ = some (.int .u64 (d j : Nat))
theorem Dg.below {w w' : World} {b n : Nat} {d : Nat → Nat} (h : Dg w b n d) (hb : Below w.heap.size w w') : Dg w' b n d :=
  ⟨Nat.lt_of_lt_of_le h.1 hb.size, fun j hj => (hb.cell (p := ⟨b, j, none⟩) h.1).trans (h.2 j hj)⟩
/-- What a call that makes n digits leaves, their number V. -/
def MkDg (n V : Nat) (w : World) (e : Ending) (w' : World) : Prop :=
  ∃ (b cap : Nat) (d : Nat → Nat), e = .returned (.slice (some ⟨b, 0, none⟩) n cap) ∧ w.heap.size ≤ b ∧ Dg w' b n d ∧ (∀ j, j < n → d j < 65536) ∧ vd d n = V ∧ Below w.heap.size w w'

theorem info22 : (Try.prog.info? 59).map (fun i => (i.zero, i.size, i.bytes)) = some (some (.int .u64 0), 1, 8) := by kernel_rfl

/-- What a round that appends one digit leaves. -/
theorem push_rel {w wr w1 : World} {base : Nat} {v v' X : Value} {k y : Nat} {ns : Nat → Nat} (hown : wr.ownsRow base 59 1 v k (dl ns k)) (hb : Below base w wr) (hsz : base ≤ wr.heap.size)
    (hown' : w1.ownsRow base 59 1 v' (k + 1) (dl ns k ++ [.int .u64 (y : Nat)])) (hgrow : (wr.alloc (.cells #[X] 59)).grownBy w1 v.ownBlock) :
    w1.ownsRow base 59 1 v' (k + 1) (dl (upd ns k y) (k + 1)) ∧ Below base w w1 := by
  rw [dl_snoc] at hown'
  exact ⟨hown', (hb.alloc hsz _).grown hgrow (by simp; omega) (fun j hj => (hown.lt j hj).1)⟩

theorem made_of {w w' : World} {base : Nat} {v : Value} {n : Nat} {d : Nat → Nat} (hbs : w.heap.size ≤ base) (h : w'.ownsRow base 59 1 v n (dl d n)) (hn : 0 < n) (hd : ∀ j, j < n → d j < 65536) (hb : Below w.heap.size w w') : MkDg n (vd d n) w (.returned v) w' := by
  obtain ⟨hl, h1⟩ := h
  rcases h1 with ⟨-, h0⟩ | ⟨g, cap, cur, rfl, hg, hc, hnc, hm, hcs, ht⟩
  · omega
  · refine ⟨g, cap, d, rfl, Nat.le_trans hbs hg, ⟨(Array.getElem?_eq_some_iff.1 hc).1, fun j hj => ?_⟩, hd, rfl, hb⟩
    rw [cell_of_row _ _ _ _ _ _ hc, ← dl_at d n j hj, ← ht]
    simp only [Nat.mul_one, List.getElem?_take, hj, if_true]
    simp

theorem and_low16 (z : Nat) (h : z < 18446744073709551616) : bits .and .u64 z 65535 = ((z % 65536 : Nat) : Int) := by
  have := bits_and_u64_nat z 65535 h (by omega)
  rw [show z &&& 65535 = z % 65536 from Nat.and_two_pow_sub_one_eq_mod z 16] at this
  exact this
end Go.Proofs.Ytgegkffigjogcaa
namespace Go.Proofs.Ytgegkffigjogcaa
/-- The number of n parts, to whatever base. -/
def vb (P : Nat) (f : Nat → Nat) : Nat → Nat
  | 0 => 0
  | n + 1 => vb P f n + P ^ n * f n
theorem vb_congr {P : Nat} {f g : Nat → Nat} {n : Nat} (h : ∀ j, j < n → f j = g j) : vb P f n = vb P g n := by
  induction n with
  | zero => rfl
  | succ n ih => simp only [vb]; rw [ih (fun j hj => h j (by omega)), h n (by omega)]
theorem vb_lt {P : Nat} {f : Nat → Nat} {n : Nat} (h : ∀ j, j < n → f j < P) : vb P f n < P ^ n := by
  induction n with
  | zero => simp [vb]
  | succ n ih =>
    have h1 := ih (fun j hj => h j (by omega))
    have h0 := h n (by omega)
    have h2 : P ^ n * (f n + 1) ≤ P ^ n * P := Nat.mul_le_mul_left _ h0
    simp only [vb]
    rw [Nat.pow_succ]
    rw [Nat.mul_add, Nat.mul_one] at h2
    omega
theorem vb_zero {P : Nat} {f : Nat → Nat} {n : Nat} (h : ∀ j, j < n → f j = 0) : vb P f n = 0 := by
  induction n with
  | zero => rfl
  | succ n ih => simp only [vb]; rw [ih (fun j hj => h j (by omega)), h n (by omega)]; rfl
/-- High parts and low parts. -/
theorem vb_split (P : Nat) (f : Nat → Nat) (n : Nat) : ∀ m, vb P f (n + m) = vb P f n + P ^ n * vb P (fun j => f (n + j)) m
  | 0 => by simp [vb]
  | m + 1 => by
    rw [← Nat.add_assoc]
    simp only [vb]
    rw [vb_split P f n m, Nat.mul_add, Nat.pow_add, Nat.mul_assoc, Nat.add_assoc]
theorem vb_set (P : Nat) (o : Nat → Nat) (p y : Nat) : ∀ L, p < L → vb P (upd o p y) L + P ^ p * o p = vb P o L + P ^ p * y
  | 0, h => by omega
  | L + 1, h => by
    simp only [vb]
    by_cases e : p = L
    · subst e
      rw [vb_congr (f := upd o p y) (g := o) (fun j hj => by simp [upd, show ¬ j = p by omega])]
      simp only [upd, if_true]
      omega
    · have := vb_set P o p y L (by omega)
      rw [show upd o p y L = o L by simp [upd, show ¬ L = p by omega]]
      omega
/-- Each part out of the number. -/
theorem vb_digit {P : Nat} {f : Nat → Nat} {n : Nat} (h : ∀ j, j < n → f j < P) (j : Nat) (hj : j < n) : f j = vb P f n / P ^ j % P := by
  have hP : 0 < P := Nat.lt_of_le_of_lt (Nat.zero_le _) (h j hj)
  obtain ⟨m, rfl⟩ : ∃ m, n = j + (m + 1) := ⟨n - j - 1, by omega⟩
  rw [vb_split, Nat.add_mul_div_left _ _ (Nat.pow_pos hP), Nat.div_eq_of_lt (vb_lt (fun i hi => h i (by omega))), Nat.zero_add, Nat.add_comm m 1, vb_split]
  simp only [vb, Nat.pow_zero, Nat.one_mul, Nat.zero_add, Nat.add_zero, Nat.pow_one]
  rw [Nat.add_mul_mod_self_left, Nat.mod_eq_of_lt (h j hj)]
theorem vb_mod (P X : Nat) : ∀ n, vb P (fun j => X / P ^ j % P) n = X % P ^ n
  | 0 => by simp [vb, Nat.mod_one]
  | n + 1 => by simp only [vb]; rw [vb_mod P X n, Nat.pow_succ, Nat.mod_mul]

/-- Adding part by part. -/
theorem add_step {Q P N A B s c c' a b : Nat} (h : N + Q * c = A + B) (h2 : s + P * c' = a + b + c) : (N + Q * s) + Q * P * c' = (A + Q * a) + (B + Q * b) := by
  have e := congrArg (Q * ·) h2
  simp only [Nat.mul_add, ← Nat.mul_assoc] at e
  omega
/-- Taking part by part. -/
theorem sub_step {Q P N A B s c c' a b : Nat} (h : N + B = A + Q * c) (h2 : s + b + c = a + P * c') : (N + Q * s) + (B + Q * b) = (A + Q * a) + Q * P * c' := by
  have e := congrArg (Q * ·) h2
  simp only [Nat.mul_add, ← Nat.mul_assoc] at e
  omega
/-- Adding so many times. -/
theorem addt_step {Q P N A B s c c' a b x : Nat} (h : N + Q * c = A + B * x) (h2 : s + P * c' = b * x + a + c) : (N + Q * s) + Q * P * c' = (A + Q * a) + (B + Q * b) * x := by
  have e := congrArg (Q * ·) h2
  simp only [Nat.mul_add, ← Nat.mul_assoc] at e
  rw [Nat.add_mul]
  omega
/-- Taking so many times. -/
theorem subt_step {Q P N A B s c c' a b x : Nat} (h : N + B * x = A + Q * c) (h2 : s + b * x + c = a + P * c') : (N + Q * s) + (B + Q * b) * x = (A + Q * a) + Q * P * c' := by
  have e := congrArg (Q * ·) h2
  simp only [Nat.mul_add, ← Nat.mul_assoc] at e
  rw [Nat.add_mul]
  omega
/-- The guess of a part: never too little, too much by one at most. -/
theorem guess_bound {X Y H R M l l' B : Nat} (hX : X = H * M + l) (hl : l < M) (hY : Y = R * M + l') (hl' : l' < M) (hB : 0 < B) (hH : B - 1 ≤ H) (hH0 : 0 < H) (hq : Y < B * X) :
    Y / X ≤ min (R / H) (B - 1) ∧ min (R / H) (B - 1) ≤ Y / X + 1 := by
  have hX0 : 0 < X := by
    rcases Nat.eq_zero_or_pos X with h | h
    · rw [h] at hq; simp at hq
    · exact h
  have hqB : Y / X < B := by rw [Nat.div_lt_iff_lt_mul hX0]; exact hq
  refine ⟨?_, ?_⟩
  · refine Nat.le_min.2 ⟨?_, by omega⟩
    rw [Nat.le_div_iff_mul_le hH0]
    have h1 : Y / X * X ≤ Y := Nat.div_mul_le_self _ _
    have h2 : Y / X * (H * M) ≤ Y / X * X := Nat.mul_le_mul_left _ (by omega)
    have h3 : (Y / X * H) * M < (R + 1) * M := by
      rw [Nat.mul_assoc, Nat.add_mul, Nat.one_mul]; omega
    have := Nat.lt_of_mul_lt_mul_right h3
    omega
  · generalize hp : min (R / H) (B - 1) = p
    have hp1 : p ≤ R / H := by rw [← hp]; exact Nat.min_le_left _ _
    have hp2 : p ≤ B - 1 := by rw [← hp]; exact Nat.min_le_right _ _
    have hpH : p * H ≤ R := (Nat.le_div_iff_mul_le hH0).1 hp1
    rcases p with - | p
    · exact Nat.zero_le _
    · refine Nat.succ_le_succ ?_
      rw [Nat.le_div_iff_mul_le hX0, hX, hY, Nat.mul_add, ← Nat.mul_assoc]
      have h1 : (p + 1) * H * M ≤ R * M := Nat.mul_le_mul_right _ hpH
      rw [Nat.add_mul, Nat.add_mul, Nat.one_mul] at h1
      have h2 : p * l ≤ p * M := Nat.mul_le_mul_left _ (by omega)
      have h3 : p * M ≤ H * M := Nat.mul_le_mul_right _ (by omega)
      omega

/-- What a step of division leaves, where the guess was right. -/
theorem step_right {W Lr rn D q N debt : Nat} (hq : q * D ≤ Lr + W * rn) (hlt : Lr + W * rn < q * D + D) (hD : D ≤ W) (hN : N < W) (h : N + D * q = Lr + W * debt) :
    debt = rn ∧ N + q * D = Lr + W * rn := by
  rw [Nat.mul_comm] at h
  have e : debt = rn := by
    rcases Nat.lt_trichotomy debt rn with h1 | h1 | h1
    · exfalso
      obtain ⟨k, rfl⟩ : ∃ k, rn = debt + (k + 1) := ⟨rn - debt - 1, by omega⟩
      rw [Nat.mul_add, Nat.mul_add] at hq hlt
      have := Nat.zero_le (W * k)
      omega
    · exact h1
    · exfalso
      obtain ⟨k, rfl⟩ : ∃ k, debt = rn + (k + 1) := ⟨debt - rn - 1, by omega⟩
      rw [Nat.mul_add, Nat.mul_add] at h
      have := Nat.zero_le (W * k)
      omega
  subst e
  exact ⟨rfl, h⟩
/-- .. and where it was one too much. -/
theorem step_over {W Lr rn D q N debt : Nat} (hq : q * D ≤ Lr + W * rn) (hlt : Lr + W * rn < q * D + D) (hD : D ≤ W) (hN : N < W) (h : N + D * (q + 1) = Lr + W * debt) :
    debt = rn + 1 ∧ N + q * D + D = Lr + W * rn + W := by
  rw [Nat.mul_add, Nat.mul_comm D q, Nat.mul_one] at h
  have e : debt = rn + 1 := by
    rcases Nat.lt_trichotomy debt (rn + 1) with h1 | h1 | h1
    · exfalso
      obtain ⟨k, rfl⟩ : ∃ k, rn = debt + k := ⟨rn - debt, by omega⟩
      rw [Nat.mul_add] at hq hlt
      have := Nat.zero_le (W * k)
      omega
    · exact h1
    · exfalso
      obtain ⟨k, rfl⟩ : ∃ k, debt = rn + 1 + (k + 1) := ⟨debt - rn - 2, by omega⟩
      rw [Nat.mul_add, Nat.mul_add, Nat.mul_add] at h
      have := Nat.zero_le (W * k)
      omega
  subst e
  rw [Nat.mul_add] at h
  exact ⟨rfl, by omega⟩

theorem vb_low (P : Nat) (f : Nat → Nat) : ∀ n, vb P f (n + 1) = f 0 + P * vb P (fun j => f (j + 1)) n
  | n => by
    rw [Nat.add_comm n 1, vb_split]
    simp only [vb, Nat.pow_zero, Nat.one_mul, Nat.zero_add, Nat.pow_one]
    congr 2
    exact vb_congr (fun j _ => by rw [Nat.add_comm])

/-- Parts o .. of f are those of g. -/
def spl (f : Nat → Nat) (o n : Nat) (g : Nat → Nat) (j : Nat) : Nat := if o ≤ j ∧ j < o + n then g (j - o) else f j
theorem spl_in (f g : Nat → Nat) (o n j : Nat) (h : j < n) : spl f o n g (o + j) = g j := by
  unfold spl; rw [if_pos (by omega)]; congr 1; omega
theorem spl_low (f g : Nat → Nat) (o n j : Nat) (h : j < o) : spl f o n g j = f j := by
  unfold spl; rw [if_neg (by omega)]
theorem spl_high (f g : Nat → Nat) (o n j : Nat) (h : o + n ≤ j) : spl f o n g j = f j := by
  unfold spl; rw [if_neg (by omega)]
theorem spl_lt {f g : Nat → Nat} {o n L B : Nat} (hf : ∀ j, j < L → f j < B) (hg : ∀ j, j < n → g j < B) : ∀ j, j < L → spl f o n g j < B := fun j hj => by
  unfold spl; split
  · exact hg _ (by omega)
  · exact hf j hj
theorem vb_spl (P : Nat) (f g : Nat → Nat) (o n L : Nat) (h : o + n ≤ L) : vb P (spl f o n g) L + P ^ o * vb P (fun j => f (o + j)) n = vb P f L + P ^ o * vb P g n := by
  obtain ⟨m, rfl⟩ : ∃ m, L = o + n + m := ⟨L - (o + n), by omega⟩
  rw [vb_split P _ (o + n) m, vb_split P _ o n, vb_split P f (o + n) m, vb_split P f o n]
  rw [vb_congr (f := spl f o n g) (g := f) (n := o) (fun j hj => spl_low _ _ _ _ _ hj)]
  rw [vb_congr (f := fun j => spl f o n g (o + j)) (g := g) (n := n) (fun j hj => spl_in _ _ _ _ _ hj)]
  rw [vb_congr (f := fun j => spl f o n g (o + n + j)) (g := fun j => f (o + n + j)) (n := m) (fun j hj => spl_high _ _ _ _ _ (by omega))]
  omega

/-- A division under way: c parts of the quotient are wanted. -/
structure DivI (B n m c : Nat) (r q : Nat → Nat) (D A : Nat) : Prop where
  parts : ∀ j, j < m + n → r j < B
  high : ∀ j, c + n ≤ j → j < m + n → r j = 0
  less : vb B (fun j => r (c + j)) n < D
  todo : ∀ j, j < c → q j = 0
  qs : ∀ j, j < m → q j < B
  sum : vb B r (m + n) + vb B q m * D = A
theorem DivI.fits {B n m c : Nat} {r q : Nat → Nat} {D A : Nat} (h : DivI B n m (c + 1) r q D A) (hc : c < m) : vb B (fun j => r (c + j)) (n + 1) < B * D := by
  rw [vb_low]
  have h0 := h.parts c (by omega)
  have h1 := h.less
  rw [vb_congr (f := fun j => r (c + (j + 1))) (g := fun j => r (c + 1 + j)) (fun j _ => by rw [Nat.add_assoc, Nat.add_comm 1 j])]
  have h2 : B * (vb B (fun j => r (c + 1 + j)) n + 1) ≤ B * D := Nat.mul_le_mul_left _ h1
  rw [Nat.mul_add] at h2
  simp only [Nat.add_zero]
  omega
/-- One part more. -/
theorem DivI.step {B n m c : Nat} {r q ns : Nat → Nat} {D A p : Nat} (h : DivI B n m (c + 1) r q D A) (hc : c < m) (hp : p < B) (hns : ∀ j, j < n + 1 → ns j < B)
    (hv : vb B ns (n + 1) + p * D = vb B (fun j => r (c + j)) (n + 1)) (hl : vb B ns n < D) (ht : ns n = 0) : DivI B n m c (spl r c (n + 1) ns) (spl q c 1 (fun _ => p)) D A := by
  refine ⟨spl_lt h.parts hns, fun j h1 h2 => ?_, ?_, fun j hj => ?_, spl_lt h.qs (fun _ _ => hp), ?_⟩
  · by_cases e : j = c + n
    · subst e; rw [spl_in _ _ _ _ _ (by omega)]; exact ht
    · rw [spl_high _ _ _ _ _ (by omega)]; exact h.high j (by omega) h2
  · rw [vb_congr (f := fun j => spl r c (n + 1) ns (c + j)) (g := ns) (fun j hj => spl_in _ _ _ _ _ (by omega))]; exact hl
  · rw [spl_low _ _ _ _ _ hj]; exact h.todo j (by omega)
  · have e1 := vb_spl B r ns c (n + 1) (m + n) (by omega)
    have e2 := vb_spl B q (fun _ => p) c 1 m (by omega)
    have e3 : vb B (fun j => q (c + j)) 1 = 0 := vb_zero (fun j hj => h.todo (c + j) (by omega))
    have e4 : vb B (fun _ => p) 1 = p := by simp [vb]
    rw [e3, e4, Nat.mul_zero, Nat.add_zero] at e2
    rw [e2, Nat.add_mul, Nat.mul_assoc]
    rw [← hv, Nat.mul_add] at e1
    have := h.sum
    omega
theorem DivI.done {B n m : Nat} {r q : Nat → Nat} {D A : Nat} (h : DivI B n m 0 r q D A) : vb B q m = A / D ∧ vb B r (m + n) = A % D := by
  have e : vb B r (m + n) = vb B r n := by
    rw [Nat.add_comm m n, vb_split, vb_zero (fun j hj => h.high (n + j) (by omega) (by omega))]; simp
  have hl := h.less
  rw [vb_congr (f := fun j => r (0 + j)) (g := r) (fun j _ => by rw [Nat.zero_add])] at hl
  have hs := h.sum
  rw [e] at hs ⊢
  constructor
  · rw [← hs, Nat.add_mul_div_right _ _ (by omega), Nat.div_eq_of_lt hl, Nat.zero_add]
  · rw [← hs, Nat.add_mul_mod_self_right, Nat.mod_eq_of_lt hl]

theorem plain_len {P : Nat} (hP : 0 < P) {f : Nat → Nat} {n m : Nat} (hf : ∀ j, j < n → f j < P) (h : n = 0 ∨ f (n - 1) ≠ 0) : vb P f n < P ^ m ↔ n ≤ m := by
  rcases Nat.eq_zero_or_pos n with rfl | hn
  · simp only [vb, Nat.zero_le, iff_true]; exact Nat.pow_pos hP
  · have ht : f (n - 1) ≠ 0 := by rcases h with h | h; omega; exact h
    constructor
    · intro hv
      rcases Nat.lt_or_ge m n with hl | hl
      · exfalso
        obtain ⟨k, rfl⟩ : ∃ k, n = k + 1 := ⟨n - 1, by omega⟩
        simp only [vb, Nat.add_sub_cancel] at hv ht
        have h1 : P ^ m ≤ P ^ k := Nat.pow_le_pow_right hP (by omega)
        have h2 : P ^ k * 1 ≤ P ^ k * f k := Nat.mul_le_mul_left _ (by omega)
        omega
      · exact hl
    · intro hl
      exact Nat.lt_of_lt_of_le (vb_lt hf) (Nat.pow_le_pow_right hP hl)
/-- The length without the noughts behind. -/
def tn (f : Nat → Nat) : Nat → Nat
  | 0 => 0
  | n + 1 => if f n = 0 then tn f n else n + 1
theorem tn_le (f : Nat → Nat) : ∀ n, tn f n ≤ n
  | 0 => Nat.le_refl _
  | n + 1 => by unfold tn; split; exact Nat.le_succ_of_le (tn_le f n); exact Nat.le_refl _
theorem tn_top (f : Nat → Nat) : ∀ n, tn f n = 0 ∨ f (tn f n - 1) ≠ 0
  | 0 => .inl rfl
  | n + 1 => by unfold tn; split; exact tn_top f n; exact .inr (by simpa using ‹¬ f n = 0›)
theorem vb_tn (P : Nat) (f : Nat → Nat) : ∀ n, vb P f (tn f n) = vb P f n
  | 0 => rfl
  | n + 1 => by
    unfold tn; split
    · rename_i h; rw [vb_tn P f n]; simp only [vb]; rw [h]; rfl
    · rfl
theorem tn_high (f : Nat → Nat) : ∀ n j, tn f n ≤ j → j < n → f j = 0
  | 0, j, _, h => by omega
  | n + 1, j, h1, h2 => by
    unfold tn at h1
    split at h1
    · rename_i h
      by_cases e : j = n
      · rw [e]; exact h
      · exact tn_high f n j h1 (by omega)
    · omega
theorem tn_congr {f g : Nat → Nat} : ∀ n, (∀ j, j < n → f j = g j) → tn f n = tn g n
  | 0, _ => rfl
  | n + 1, h => by unfold tn; rw [h n (by omega), tn_congr n (fun j hj => h j (by omega))]
/-- Two numbers without noughts behind, equal as numbers, are equal part by part. -/
theorem plain_inj {P : Nat} (hP : 0 < P) {f g : Nat → Nat} {n m : Nat} (hf : ∀ j, j < n → f j < P) (hg : ∀ j, j < m → g j < P) (h1 : n = 0 ∨ f (n - 1) ≠ 0) (h2 : m = 0 ∨ g (m - 1) ≠ 0) (h : vb P f n = vb P g m) :
    n = m ∧ ∀ j, j < n → f j = g j := by
  have a := (plain_len hP hf h1 (m := m)).1 (by rw [h]; exact vb_lt hg)
  have b := (plain_len hP hg h2 (m := n)).1 (by rw [← h]; exact vb_lt hf)
  obtain rfl : n = m := by omega
  exact ⟨rfl, fun j hj => by rw [vb_digit hf j hj, vb_digit hg j hj, h]⟩
end Go.Proofs.Ytgegkffigjogcaa
namespace Go.Proofs.Ytgegkffigjogcaa
open Go.RowKit

/-- n cells of block b from o on hold parts. -/
def Pt (w : World) (b o n : Nat) (f : Nat → Nat) : Prop := b < w.heap.size ∧ ∀ j, j < n → w.cell? ⟨b, o + j, none⟩ = some (.int .u32 (f j : Nat))
/-- A list, or none, that reads as n parts. -/
def RdA (w : World) (a : Option Addr) (n : Nat) (f : Nat → Nat) : Prop := n = 0 ∨ ∃ b o, a = some ⟨b, o, none⟩ ∧ Pt w b o n f
theorem Pt.below {w w' : World} {b o n : Nat} {f : Nat → Nat} (h : Pt w b o n f) (hb : Below w.heap.size w w') : Pt w' b o n f :=
  ⟨Nat.lt_of_lt_of_le h.1 hb.size, fun j hj => (hb.cell (p := ⟨b, o + j, none⟩) h.1).trans (h.2 j hj)⟩
theorem RdA.below {w w' : World} {a : Option Addr} {n : Nat} {f : Nat → Nat} (h : RdA w a n f) (hb : Below w.heap.size w w') : RdA w' a n f := by
  rcases h with h | ⟨b, o, ha, hp⟩
  · exact .inl h
  · exact .inr ⟨b, o, ha, hp.below hb⟩
theorem RdA.less {w : World} {a : Option Addr} {n : Nat} {f : Nat → Nat} (h : RdA w a n f) (m : Nat) (hm : m ≤ n) : RdA w a m f := by
  rcases h with rfl | ⟨b, o, ha, hp⟩
  · exact .inl (by omega)
  · exact .inr ⟨b, o, ha, hp.1, fun j hj => hp.2 j (by omega)⟩
theorem Pt.rd {w : World} {b o n : Nat} {f : Nat → Nat} (h : Pt w b o n f) : RdA w (some ⟨b, o, none⟩) n f := .inr ⟨b, o, rfl, h⟩
/-- What a walk reads at a place of a list. -/
theorem RdA.at_ {w : World} {a : Option Addr} {n : Nat} {f : Nat → Nat} (h : RdA w a n f) (cap k : Nat) (hk : k < n) : ∃ p : Addr, (∀ w, (Instr.indexAt 23 (.slice a n cap) (.int .i64 (k : Int))).run Try.prog w = .ok (.pointer (some p)) w) ∧ p.block < w.heap.size ∧ (∃ q, a = some q ∧ q.block = p.block) ∧ w.cell? p = some (.int .u32 (f k : Nat)) := by
  rcases h with rfl | ⟨b, o, rfl, hp⟩
  · omega
  · refine ⟨⟨b, o + k, none⟩, fun w => ?_, hp.1, ⟨_, rfl, rfl⟩, hp.2 k hk⟩
    have h0 : (0 : Int) ≤ k := by omega
    have h1 : (k : Int) < n := by omega
    go_simp

theorem slice_nat (a : Option Addr) (len cap h : Nat) (hh : (h : Int) ≤ cap) (w : World) : (Instr.slice 23 (.slice a len cap) none (some (.int .i64 (h : Int))) none).run Try.prog w = .ok (.slice a h cap) w := by
  have hsz : (sizeOf (Try.prog.elem 23)).run Try.prog w = .ok 1 w := by kernel_rfl
  rw [run_slice_h w 23 a len cap (by kernel_rfl) .i64 _ (by omega) hh, hsz]
  cases a <;> simp [Result.andThen, sliced, Addr.add]

set_option maxRecDepth 100000 in
set_option maxHeartbeats 1000000 in
theorem trim_any (a : Option Addr) (n cap : Nat) (f : Nat → Nat) (hn : (n : Int) ≤ 140737488355328) (hc : n ≤ cap) (w : World) (hP : RdA w a n f) :
    Calls Try.prog 41 #[.slice a n cap] w fun e w' => e = .returned (.slice a (tn f n) cap) ∧ w = w' := by
  have HP := Lib.hid hP; clear hP
  have hsl : ∀ h : Nat, (h : Int) ≤ cap → ∀ w, (Instr.slice 23 (.slice a n cap) none (some (.int .i64 (h : Int))) none).run Try.prog w = .ok (.slice a h cap) w := fun h hh w => slice_nat a n cap h hh w
  have HSL := Lib.hid hsl; clear hsl
  go_enter Try.func41, Try.ntmps41
  go_wp2
  go_loop [3] (fun iv => ∃ k : Nat, k ≤ n ∧ iv = .int .i64 k ∧ Hid (tn f n = tn f k)) (fun iv => (intOf iv).toNat)
  case atStart => exact ⟨n, Nat.le_refl _, rfl, Lib.hid rfl⟩
  case round =>
    obtain ⟨k, hk, rfl, H⟩ := hrel
    by_cases hk0 : k = 0
    · have e : tn f n = k := by rw [H.out, hk0]; rfl
      have hk1 : ¬ (0 : Int) < k := by omega
      have HE := Lib.hid e; clear e H hk0
      have hs := HSL.out k (by omega)
      go_wp2
      go_ret
      exact ⟨by rw [HE.out]; rfl, rfl⟩
    · obtain ⟨i, hi⟩ : ∃ i : Nat, (k : Int) - 1 = (i : Int) := ⟨k - 1, by omega⟩
      have hik : k = i + 1 := by omega
      have hi0 : (0 : Int) ≤ i := by omega
      have hi1 : (i : Int) < n := by omega
      have hk1 : (0 : Int) < k := by omega
      obtain ⟨p, hx, -, -, ca⟩ := HP.out.at_ cap i (by omega)
      have HIK := Lib.hid hik; clear hik
      by_cases hz : f i = 0
      · have hz' : ((f i : Nat) : Int) = 0 := by omega
        have hz2 : (((f i : Nat) : Int) == 0) = true := by simp [hz]
        have HZ := Lib.hid hz; clear hz
        go_wp2
        go_round
        case rel => exact ⟨i, by omega, rfl, Lib.hid (by rw [H.out, HIK.out, tn, if_pos HZ.out])⟩
        case measure => simp [intOf]; omega
      · have hz2 : (((f i : Nat) : Int) == 0) = false := by simp [hz]
        have hs := HSL.out k (by omega)
        have e : tn f n = k := by rw [H.out, HIK.out, tn, if_neg hz]
        have HE := Lib.hid e; clear e H hz
        go_wp2
        go_ret
        exact ⟨by rw [HE.out]; rfl, rfl⟩
end Go.Proofs.Ytgegkffigjogcaa
namespace Go.Proofs.Ytgegkffigjogcaa
open Go.RowKit

/-- Parts as cells. -/
def pl (f : Nat → Nat) (n : Nat) : List Value := (List.range n).map fun j => .int .u32 (f j : Nat)
theorem pl_len (f : Nat → Nat) (n : Nat) : (pl f n).length = n := by simp [pl]
theorem pl_at (f : Nat → Nat) (n j : Nat) (h : j < n) : (pl f n)[j]? = some (.int .u32 (f j : Nat)) := by simp [pl, h]
theorem one_pl (f : Nat → Nat) (n : Nat) : ∀ u ∈ pl f n, u.oneCell' = true := fun u hu => by
  unfold pl at hu
  rw [List.mem_map] at hu
  obtain ⟨j, -, rfl⟩ := hu
  rfl
theorem news_pl {w : World} {b o n : Nat} {f : Nat → Nat} (h : Pt w b o n f) : ∀ j u, (pl f n)[j]? = some u → w.cell? ((⟨b, o, none⟩ : Addr).add j) = some u := fun j u hj => by
  have hj2 : j < n := by
    have := (List.getElem?_eq_some_iff.1 hj).1
    rwa [pl_len] at this
  rw [pl_at _ _ _ hj2] at hj
  cases hj
  have h := h.2 j hj2
  cases j with
  | zero => simpa [Addr.add] using h
  | succ j => simpa [Addr.add] using h
theorem own_pt {w : World} {base n : Nat} {v : Value} {f : Nat → Nat} (h : w.ownsRow base 32 1 v n (pl f n)) (hn : 0 < n) : ∃ g cap, v = .slice (some ⟨g, 0, none⟩) n cap ∧ n ≤ cap ∧ base ≤ g ∧ Pt w g 0 n f := by
  obtain ⟨-, h1⟩ := h
  rcases h1 with ⟨-, h0⟩ | ⟨g, cap, cur, rfl, hg, hc, hnc, hm, hcs, ht⟩
  · omega
  · refine ⟨g, cap, rfl, hnc, hg, (Array.getElem?_eq_some_iff.1 hc).1, fun j hj => ?_⟩
    rw [Nat.zero_add, cell_of_row _ _ _ _ _ _ hc, ← pl_at f n j hj, ← ht]
    simp only [Nat.mul_one, List.getElem?_take, hj, if_true]
    simp

theorem wrap_u32_nat (x : Nat) : IntKind.u32.wrap (x : Int) = ((x % 4294967296 : Nat) : Int) := by rw [IntKind.wrap_u32]; omega
theorem add32_any (x y c : Nat) (hx : x < 4294967296) (hy : y < 4294967296) (hc : c < 4294967296) (w : World) :
    Calls Try.prog 65 #[.int .u32 x, .int .u32 y, .int .u32 c] w fun e w' => e = .returned (.tuple #[.int .u32 ((x + y + c) % 4294967296 : Nat), .int .u32 ((x + y + c) / 4294967296 : Nat)]) ∧ w = w' := by
  have x0 : (0 : Int) ≤ x := by omega
  have x1 : (x : Int) < 4294967296 := by omega
  have y0 : (0 : Int) ≤ y := by omega
  have y1 : (y : Int) < 4294967296 := by omega
  have c0 : (0 : Int) ≤ c := by omega
  have c1 : (c : Int) < 4294967296 := by omega
  clear hx hy hc
  go_enter Try.func65, Try.ntmps65
  go_wp2
  go_ret2
  refine ⟨?_, rfl⟩
  show Ending.returned (.tuple #[.int .u32 ((x + y + c : Int) % 4294967296), .int .u32 ((x + y + c : Int) / 4294967296)]) = _
  simp

theorem bits_u32_nat (a b : Nat) (ha : a < 4294967296) (hb : b < 4294967296) :
    bits .and .u32 (a : Int) (b : Int) = ((a &&& b : Nat) : Int) ∧ bits .or .u32 (a : Int) (b : Int) = ((a ||| b : Nat) : Int) ∧ bits .xor .u32 (a : Int) (b : Int) = ((a ^^^ b : Nat) : Int) := by
  have h1 : (BitVec.ofInt 32 (a : Int)).toNat = a := by
    rw [BitVec.ofInt_natCast, BitVec.toNat_ofNat]; exact Nat.mod_eq_of_lt (by omega)
  have h2 : (BitVec.ofInt 32 (b : Int)).toNat = b := by
    rw [BitVec.ofInt_natCast, BitVec.toNat_ofNat]; exact Nat.mod_eq_of_lt (by omega)
  refine ⟨?_, ?_, ?_⟩
  · have hx : a &&& b < 2 ^ 32 := Nat.and_lt_two_pow _ (by omega)
    show IntKind.u32.wrap ((BitVec.ofInt 32 (a : Int) &&& BitVec.ofInt 32 (b : Int)).toNat : Int) = _
    rw [BitVec.toNat_and, h1, h2, IntKind.wrap_u32]; omega
  · have hx : a ||| b < 2 ^ 32 := Nat.or_lt_two_pow (by omega) (by omega)
    show IntKind.u32.wrap ((BitVec.ofInt 32 (a : Int) ||| BitVec.ofInt 32 (b : Int)).toNat : Int) = _
    rw [BitVec.toNat_or, h1, h2, IntKind.wrap_u32]; omega
  · have hx : a ^^^ b < 2 ^ 32 := Nat.xor_lt_two_pow (by omega) (by omega)
    show IntKind.u32.wrap ((BitVec.ofInt 32 (a : Int) ^^^ BitVec.ofInt 32 (b : Int)).toNat : Int) = _
    rw [BitVec.toNat_xor, h1, h2, IntKind.wrap_u32]; omega
theorem not_u32_nat (a : Nat) (ha : a < 4294967296) : bits .xor .u32 IntKind.u32.max (a : Int) = ((4294967295 - a : Nat) : Int) := by
  have h := (bits_u32_nat 4294967295 a (by omega) ha).2.2
  rw [show IntKind.u32.max = ((4294967295 : Nat) : Int) by rfl, h]
  congr 1
  apply Nat.eq_of_testBit_eq
  intro i
  rw [show 4294967295 - a = 2 ^ 32 - (a + 1) by omega, Nat.testBit_two_pow_sub_succ (by omega), Nat.testBit_xor, show (4294967295 : Nat) = 2 ^ 32 - 1 by rfl, Nat.testBit_two_pow_sub_one]
  by_cases h : i < 32
  · simp [h]
  · have : a.testBit i = false := Nat.testBit_lt_two_pow (Nat.lt_of_lt_of_le (show a < 2 ^ 32 by omega) (Nat.pow_le_pow_right (by omega) (by omega)))
    simp [h, this]
theorem top_bit {n : Nat} (h : n < 4294967296) : n / 2147483648 = if n.testBit 31 then 1 else 0 := by
  rw [Nat.testBit_eq_decide_div_mod_eq]
  have : n / 2 ^ 31 = n / 2147483648 := rfl
  rw [this]
  split <;> rename_i h1 <;> simp at h1 <;> omega
theorem sub32_nat (x y c d : Nat) (hx : x < 4294967296) (hy : y < 4294967296) (hc : c ≤ 1) (hd : d = (x + 4294967296 + 4294967296 - y - c) % 4294967296) :
    ((4294967295 - x) &&& y ||| (4294967295 - (x ^^^ y)) &&& d) / 2147483648 = if x < y + c then 1 else 0 := by
  have hxy : x ^^^ y < 2 ^ 32 := Nat.xor_lt_two_pow (by omega) (by omega)
  have hd' : d < 4294967296 := by omega
  have l1 : (4294967295 - x) &&& y < 2 ^ 32 := Nat.and_lt_two_pow _ (by omega)
  have l2 : (4294967295 - (x ^^^ y)) &&& d < 2 ^ 32 := Nat.and_lt_two_pow _ (by omega)
  rw [top_bit (Nat.or_lt_two_pow l1 l2)]
  have e1 : (4294967295 - x).testBit 31 = !x.testBit 31 := by
    rw [show 4294967295 - x = 2 ^ 32 - (x + 1) by omega, Nat.testBit_two_pow_sub_succ (by omega)]; simp
  have e2 : (4294967295 - (x ^^^ y)).testBit 31 = !(x ^^^ y).testBit 31 := by
    rw [show 4294967295 - (x ^^^ y) = 2 ^ 32 - ((x ^^^ y) + 1) by omega, Nat.testBit_two_pow_sub_succ (by omega)]; simp
  rw [Nat.testBit_or, Nat.testBit_and, Nat.testBit_and, e1, e2, Nat.testBit_xor]
  have ex := top_bit hx
  have ey := top_bit hy
  have ed := top_bit hd'
  cases hX : x.testBit 31 <;> cases hY : y.testBit 31 <;> cases hD : d.testBit 31 <;> rw [hX] at ex <;> rw [hY] at ey <;> rw [hD] at ed <;> simp at ex ey ed ⊢ <;> omega
/-- What Sub32 tells. -/
def Sub32Post (x y c : Nat) (w : World) (e : Ending) (w' : World) : Prop := e = .returned (.tuple #[.int .u32 ((x + 4294967296 + 4294967296 - y - c) % 4294967296 : Nat), .int .u32 ((if x < y + c then 1 else 0 : Nat) : Int)]) ∧ w = w'
theorem sub32_vals (x y c : Nat) (hx : x < 4294967296) (hy : y < 4294967296) (hc : c ≤ 1) : ((x : Int) - y - c) % 4294967296 = (((x + 4294967296 + 4294967296 - y - c) % 4294967296 : Nat) : Int) ∧
    bits BinOp.or IntKind.u32 (bits BinOp.and IntKind.u32 (bits BinOp.xor IntKind.u32 IntKind.u32.max x) y) (bits BinOp.and IntKind.u32 (bits BinOp.xor IntKind.u32 IntKind.u32.max (bits BinOp.xor IntKind.u32 x y)) (((x : Int) - y - c) % 4294967296)) / 2147483648 = ((if x < y + c then 1 else 0 : Nat) : Int) := by
  have e : ((x : Int) - y - c) % 4294967296 = (((x + 4294967296 + 4294967296 - y - c) % 4294967296 : Nat) : Int) := by omega
  refine ⟨e, ?_⟩
  rw [e]
  have h := sub32_nat x y c _ hx hy hc rfl
  obtain ⟨d, hd⟩ : ∃ d, d = (x + 4294967296 + 4294967296 - y - c) % 4294967296 := ⟨_, rfl⟩
  rw [← hd] at h ⊢
  have hxy : x ^^^ y < 2 ^ 32 := Nat.xor_lt_two_pow (by omega) (by omega)
  have l1 : (4294967295 - x) &&& y < 2 ^ 32 := Nat.and_lt_two_pow _ (by omega)
  have l2 : (4294967295 - (x ^^^ y)) &&& d < 2 ^ 32 := Nat.and_lt_two_pow _ (by omega)
  rw [not_u32_nat x hx, (bits_u32_nat x y hx hy).2.2, not_u32_nat _ hxy, (bits_u32_nat (4294967295 - x) y (by omega) hy).1, (bits_u32_nat (4294967295 - (x ^^^ y)) d (by omega) (by omega)).1, (bits_u32_nat _ _ l1 l2).2.1, ← h]
  rfl
set_option maxRecDepth 100000 in
theorem sub32_any (x y c : Nat) (hx : x < 4294967296) (hy : y < 4294967296) (hc : c ≤ 1) (w : World) :
    Calls Try.prog 66 #[.int .u32 x, .int .u32 y, .int .u32 c] w (Sub32Post x y c w) := by
  have HV := Lib.hid (sub32_vals x y c hx hy hc)
  clear hx hy hc
  go_enter Try.func66, Try.ntmps66
  go_wp2
  go_ret2
  refine ⟨?_, rfl⟩
  rw [← HV.out.1, ← HV.out.2]
  rfl

/-- What a call leaves that makes a list of its own. -/
def MkN (n : Nat) (f : Nat → Nat) (w : World) (e : Ending) (w' : World) : Prop :=
  ∃ a cap, e = .returned (.slice a n cap) ∧ n ≤ cap ∧ RdA w' a n f ∧ (∀ q, a = some q → w.heap.size ≤ q.block ∧ q.block < w'.heap.size) ∧ Below w.heap.size w w'
theorem mk_own {w w' : World} {base n : Nat} {v : Value} {f : Nat → Nat} (h : w'.ownsRow base 32 1 v n (pl f n)) (hb : w.heap.size ≤ base) (hw : Below w.heap.size w w') : MkN n f w (.returned v) w' := by
  rcases Nat.eq_zero_or_pos n with rfl | hn
  · obtain ⟨-, h1⟩ := h
    rcases h1 with ⟨rfl, -⟩ | ⟨g, cap, cur, rfl, hg, hc, hnc, hm, hcs, ht⟩
    · exact ⟨none, 0, rfl, Nat.le_refl _, .inl rfl, (fun q hq => by cases hq), hw⟩
    · exact ⟨_, cap, rfl, hnc, .inl rfl, (fun q hq => by cases hq; exact ⟨Nat.le_trans hb hg, (Array.getElem?_eq_some_iff.1 hc).1⟩), hw⟩
  · obtain ⟨g, c, rfl, hc, hg, hp⟩ := own_pt h hn
    exact ⟨_, c, rfl, hc, hp.rd, (fun q hq => by cases hq; exact ⟨Nat.le_trans hb hg, hp.1⟩), hw⟩
theorem info32 : (Try.prog.info? 32).map (fun i => (i.zero, i.size, i.bytes)) = some (some (.int .u32 0), 1, 4) := by kernel_rfl

set_option maxRecDepth 100000 in
set_option maxHeartbeats 1000000 in
theorem clone_some (b o n cap : Nat) (f : Nat → Nat) (hn : (n : Int) ≤ 35184372088832) (w : World) (hP : Pt w b o n f) :
    Calls Try.prog 52 #[.slice (some ⟨b, o, none⟩) n cap] w (MkN n f w) := by
  have HP := Lib.hid hP; clear hP
  obtain ⟨i0, hi, hz0, hz1, hz2⟩ := info_parts info32
  have hnil : ∀ w, (binOp .eql 23 (.slice (some ⟨b, o, none⟩) n cap) (.slice none 0 0)).run Try.prog w = .ok (.bool false) w := fun w => Lib.run_eql_slice_nil w _ _ _ _ _ _ _ Try.underlying23
  go_enter Try.func52, Try.ntmps52
  go_wp2_with (at_builtin; refine wpList_append_own _ rfl _ _ 23 rfl w.heap.size 32 i0 (.int .u32 0) 1 4 Try.underlying23 hi hz0 hz1 hz2 rfl (by decide) _ 0 [] rfl (World.ownsRow_made (base := w.heap.size) (e := 32) (size := 1) w #[] 0 (by simp) (by decide) (by simp)) ⟨b, o, none⟩ n cap (pl f n) rfl (by rw [pl_len, Nat.mul_one]) ?c1 ?c2 ?c3 ?c4 ?c5 ?_)
  case c1 => exact news_pl (HP.out.below ((Below.refl _ _).alloc (Nat.le_refl _) _))
  case c2 => exact one_pl f n
  case c3 => unfold maxLen; omega
  case c4 => omega
  case c5 => simp
  intro v' w1 hown' hgrow _
  have HF := Lib.hid (mk_own (w := w) hown' (Nat.le_refl _) (((Below.refl _ _).alloc (Nat.le_refl _) _).grown hgrow (by simp) (fun j hj => by cases hj; exact Nat.le_refl _)))
  clear hown' hgrow
  go_wp2
  go_ret
  exact HF.out
theorem clip_any (a : Option Addr) (n cap : Nat) (hc : n ≤ cap) (w : World) :
    Calls Try.prog 51 #[.slice a n cap] w fun e w' => e = .returned (.slice a n n) ∧ w = w' := by
  have hs : ∀ w, (Instr.slice 23 (.slice a n cap) none (some (.int .i64 (n : Int))) (some (.int .i64 (n : Int)))).run Try.prog w = .ok (.slice a n n) w := fun w => by
    have hsz : (sizeOf (Try.prog.elem 23)).run Try.prog w = .ok 1 w := by kernel_rfl
    rw [run_slice_hm w 23 a n cap (by kernel_rfl) .i64 .i64 _ _ (by omega) (by omega) (by omega), hsz]
    cases a <;> simp [Result.andThen, sliced, Addr.add]
  go_enter Try.func51, Try.ntmps51
  go_wp2
  go_ret
  exact ⟨rfl, rfl⟩

set_option maxRecDepth 100000 in
-- WHAT nat.Plain COMES TO.
theorem plain_any (a : Option Addr) (n cap : Nat) (f : Nat → Nat) (hn : (n : Int) ≤ 35184372088832) (hc : n ≤ cap) (w : World) (hP : RdA w a n f) :
    Calls Try.prog 24 #[.slice a n cap] w (MkN (tn f n) f w) := by
  have HT := Lib.hid (fun w hP => trim_any a n cap f (by omega) hc w hP)
  have hl := tn_le f n
  obtain ⟨m, hm⟩ : ∃ m, tn f n = m := ⟨_, rfl⟩
  rw [hm] at HT hl ⊢
  have hP' : RdA w a m f := hP.less m hl
  clear hm
  have HP := Lib.hid hP; clear hP
  have HP' := Lib.hid hP'; clear hP'
  by_cases h0 : m = 0
  · have e0 : ((m : Int) == 0) = true := by simp [h0]
    have HZ := Lib.hid h0; clear h0
    go_enter Try.func24, Try.ntmps24
    go_wp2_with fail
    refine (HT.out _ HP.out).mono ?_
    rintro e w' ⟨rfl, rfl⟩
    go_wp2
    go_ret
    exact ⟨none, 0, by rw [HZ.out]; rfl, by rw [HZ.out]; exact Nat.le_refl _, .inl HZ.out, (fun q hq => by cases hq), Below.refl _ _⟩
  · have e0 : ((m : Int) == 0) = false := by simp [h0]
    have hm0 : (m : Int) ≤ 35184372088832 := by omega
    obtain ⟨b, o, rfl, hp⟩ : ∃ b o, a = some ⟨b, o, none⟩ ∧ Pt w b o m f := by
      rcases HP'.out with h | h
      · exact absurd h h0
      · exact h
    have HC := Lib.hid (clone_some b o m cap f hm0 w hp); clear hp h0
    go_enter Try.func24, Try.ntmps24
    go_wp2_with fail
    refine (HT.out _ HP.out).mono ?_
    rintro e w' ⟨rfl, rfl⟩
    go_wp2_with fail
    refine HC.out.mono ?_
    rintro e w1 ⟨a1, c1, rfl, hc1, hr, hq, hb⟩
    have HR := Lib.hid (And.intro hr (And.intro hq hb)); clear hr hq hb
    go_wp2_with fail
    refine (clip_any a1 m c1 hc1 _).mono ?_
    rintro e w' ⟨rfl, rfl⟩
    go_wp2
    go_ret
    exact ⟨a1, m, rfl, Nat.le_refl _, HR.out⟩

set_option maxRecDepth 100000 in
theorem check_one (a : Option Addr) (n cap : Nat) (f : Nat → Nat) (hn : (n : Int) ≤ 35184372088832) (hc : n ≤ cap) (w : World) (hP : RdA w a n f) :
    Calls Try.prog 22 #[.slice a n cap] w fun e w' => e = .returned (.int .i64 ((if 1024 < tn f n then 2 else 0 : Nat) : Int)) ∧ w = w' := by
  have HT := Lib.hid (fun w hP => trim_any a n cap f (by omega) hc w hP)
  obtain ⟨m, hm⟩ : ∃ m, tn f n = m := ⟨_, rfl⟩
  rw [hm] at HT ⊢
  clear hm
  have HP := Lib.hid hP; clear hP
  by_cases h : 1024 < m
  · have h' : (1024 : Int) < m := by omega
    rw [if_pos h]
    clear h
    go_enter Try.func22, Try.ntmps22
    go_wp2_with fail
    refine (HT.out _ HP.out).mono ?_
    rintro e w' ⟨rfl, rfl⟩
    go_wp2
    go_ret
    exact ⟨rfl, rfl⟩
  · have h' : ¬ (1024 : Int) < m := by omega
    rw [if_neg h]
    clear h
    go_enter Try.func22, Try.ntmps22
    go_wp2_with fail
    refine (HT.out _ HP.out).mono ?_
    rintro e w' ⟨rfl, rfl⟩
    go_wp2
    go_ret
    exact ⟨rfl, rfl⟩
/-- The first code that is not nought. -/
def chk (c : Nat → Nat) : Nat → Nat
  | 0 => 0
  | k + 1 => if chk c k = 0 then c k else chk c k
theorem chk_first (c : Nat → Nat) (k : Nat) (h0 : chk c k = 0) (h1 : c k ≠ 0) : ∀ n, k < n → chk c n = c k
  | 0, h => by omega
  | n + 1, h => by
    unfold chk
    by_cases e : k = n
    · subst e; rw [if_pos h0]
    · rw [chk_first c k h0 h1 n (by omega), if_neg h1]
set_option maxRecDepth 100000 in
theorem check_any (g k : Nat) (S : Nat → Value) (c : Nat → Nat) (hk : (k : Int) ≤ 10) (w : World) (hS : ∀ j, j < k → w.cell? ⟨g, j, none⟩ = some (S j)) (hC : ∀ j, j < k → Calls Try.prog 22 #[S j] w fun e w' => e = .returned (.int .i64 (c j : Nat)) ∧ w = w') :
    Calls Try.prog 40 #[.slice (some ⟨g, 0, none⟩) k k] w fun e w' => e = .returned (.int .i64 (chk c k : Nat)) ∧ w = w' := by
  have HS := Lib.hid hS; clear hS
  have HC := Lib.hid hC; clear hC
  go_enter Try.func40, Try.ntmps40
  go_wp2
  go_loop [8] (fun iv => ∃ j : Nat, j ≤ k ∧ iv = .int .i64 j ∧ Hid (chk c j = 0)) (fun iv => k - (intOf iv).toNat)
  case atStart => exact ⟨0, by omega, rfl, Lib.hid rfl⟩
  case round =>
    obtain ⟨j, hj, rfl, H⟩ := hrel
    have hj0 : (0 : Int) ≤ j := by omega
    by_cases hlt : j < k
    · have hlt' : (j : Int) < k := by omega
      have hs := HS.out j hlt
      obtain ⟨s, hse⟩ : ∃ s, S j = s := ⟨_, rfl⟩
      have HCJ := Lib.hid (HC.out j hlt)
      obtain ⟨d, hd⟩ : ∃ d, c j = d := ⟨_, rfl⟩
      rw [hse] at hs HCJ
      rw [hd] at HCJ
      clear hse
      by_cases hz : d = 0
      · have e0 : (((d : Nat) : Int) != 0) = false := by simp [hz]
        have HD := Lib.hid hd; clear hd
        have HZ := Lib.hid hz; clear hz
        go_wp2_with fail
        refine HCJ.out.mono ?_
        rintro e w' ⟨rfl, rfl⟩
        go_wp2
        go_round
        case rel => exact ⟨j + 1, by omega, by go_num, Lib.hid (by unfold chk; rw [if_pos H.out, HD.out, HZ.out])⟩
        case measure => simp [intOf]; omega
      · have e0 : (((d : Nat) : Int) != 0) = true := by simp [hz]
        have hf : chk c k = d := by rw [chk_first c j H.out (by rw [hd]; exact hz) k hlt, hd]
        have HF := Lib.hid hf; clear hf hd hz
        go_wp2_with fail
        refine HCJ.out.mono ?_
        rintro e w' ⟨rfl, rfl⟩
        go_wp2
        go_ret
        exact ⟨by rw [HF.out]; rfl, rfl⟩
    · obtain rfl : j = k := by omega
      go_wp2
      go_ret
      exact ⟨by rw [H.out]; rfl, rfl⟩
end Go.Proofs.Ytgegkffigjogcaa
namespace Go.Proofs.Ytgegkffigjogcaa
open Go.RowKit

/-- Nothing has turned but cells of block S. -/
structure But (S : Nat) (w w' : World) : Prop where
  os : w'.os = w.os
  tape : w'.tape = w.tape
  output : w'.output = w.output
  size : w'.heap.size = w.heap.size
  block : ∀ k, k ≠ S → w'.heap[k]? = w.heap[k]?
  frozen : ∀ j, w'.frozen? ⟨S, j, none⟩ = w.frozen? ⟨S, j, none⟩
theorem But.refl (S : Nat) (w : World) : But S w w := ⟨rfl, rfl, rfl, rfl, fun _ _ => rfl, fun _ => rfl⟩
theorem But.set {S : Nat} {w w' : World} (h : But S w w') (j : Nat) (u : Value) : But S w (w'.setCell ⟨S, j, none⟩ u) :=
  ⟨h.os, h.tape, h.output, by simp [h.size], fun k hk => by rw [Below.heap_setCell _ _ _ _ hk]; exact h.block k hk, fun i => by rw [World.frozen?_setCell]; exact h.frozen i⟩
theorem But.trans {S : Nat} {w w' w'' : World} (h : But S w w') (h' : But S w' w'') : But S w w'' :=
  ⟨h'.os.trans h.os, h'.tape.trans h.tape, h'.output.trans h.output, h'.size.trans h.size, fun k hk => (h'.block k hk).trans (h.block k hk), fun j => (h'.frozen j).trans (h.frozen j)⟩
theorem But.cell {S : Nat} {w w' : World} (h : But S w w') {p : Addr} (hp : p.block ≠ S) : w'.cell? p = w.cell? p := World.cell?_of_block (w := w) (h.block p.block hp)
theorem But.below {S B : Nat} {w0 w w' : World} (h0 : Below B w0 w) (h : But S w w') (hB : B ≤ S) : Below B w0 w' :=
  h0.trans ⟨h.os, h.tape, h.output, by rw [h.size]; exact Nat.le_refl _, fun k hk => h.block k (by omega)⟩
theorem But.drew {S : Nat} {w w' : World} (h : But S w w') : But S w w'.drew := ⟨h.os, h.tape, h.output, h.size, h.block, h.frozen⟩

/-- Cells o .. of block S hold parts, and may be written. -/
def Wr (w : World) (S o n : Nat) (f : Nat → Nat) : Prop := S < w.heap.size ∧ ∀ j, j < n → w.cell? ⟨S, o + j, none⟩ = some (.int .u32 (f j : Nat)) ∧ w.frozen? ⟨S, o + j, none⟩ = false
theorem Wr.pt {w : World} {S o n : Nat} {f : Nat → Nat} (h : Wr w S o n f) : Pt w S o n f := ⟨h.1, fun j hj => (h.2 j hj).1⟩
theorem Wr.sub {w : World} {S o n : Nat} {f : Nat → Nat} (h : Wr w S o n f) (i m : Nat) (hm : i + m ≤ n) : Wr w S (o + i) m (fun j => f (i + j)) :=
  ⟨h.1, fun j hj => by have := h.2 (i + j) (by omega); rwa [← Nat.add_assoc] at this⟩
theorem Wr.less {w : World} {S o n : Nat} {f : Nat → Nat} (h : Wr w S o n f) (m : Nat) (hm : m ≤ n) : Wr w S o m f := ⟨h.1, fun j hj => h.2 j (by omega)⟩
theorem Wr.below {w w' : World} {S o n : Nat} {f : Nat → Nat} (h : Wr w S o n f) (hb : Below w.heap.size w w') : Wr w' S o n f :=
  ⟨Nat.lt_of_lt_of_le h.1 hb.size, fun j hj => ⟨(hb.cell (p := ⟨S, o + j, none⟩) h.1).trans (h.2 j hj).1, (hb.frozen (p := ⟨S, o + j, none⟩) h.1).trans (h.2 j hj).2⟩⟩
/-- Cells o .. of block S hold the first k parts of ns; the others what they held. -/
def HoldsN (S o k : Nat) (ns : Nat → Nat) (w w' : World) : Prop := But S w w' ∧ ∀ j, w'.cell? ⟨S, j, none⟩ = if o ≤ j ∧ j < o + k then some (.int .u32 (ns (j - o) : Nat)) else w.cell? ⟨S, j, none⟩
theorem HoldsN.start (S o : Nat) (ns : Nat → Nat) (w : World) : HoldsN S o 0 ns w w := ⟨But.refl S w, fun j => by rw [if_neg (by omega)]⟩
theorem HoldsN.next {S o k : Nat} {ns : Nat → Nat} {w w' : World} (h : HoldsN S o k ns w w') (s : Nat) (hs : (w.cell? ⟨S, o + k, none⟩).isSome = true) :
    HoldsN S o (k + 1) (upd ns k s) w (w'.setCell ⟨S, o + k, none⟩ (.int .u32 s)) := by
  refine ⟨h.1.set _ _, fun j => ?_⟩
  by_cases hj : j = o + k
  · subst hj
    have h1 : (w'.cell? ⟨S, o + k, none⟩).isSome = true := by rw [h.2, if_neg (by omega)]; exact hs
    obtain ⟨v, hv⟩ := Option.isSome_iff_exists.1 h1
    rw [if_pos (by omega), World.cell?_setCell_same _ _ _ hv]
    simp [upd]
  · rw [World.cell?_setCell_other _ _ _ _ (by intro e; apply hj; injection e with _ e2; exact e2.symm)]
    rw [h.2 j]
    by_cases h1 : o ≤ j ∧ j < o + k
    · rw [if_pos h1, if_pos (by omega)]
      simp only [upd]
      rw [if_neg (by omega)]
    · rw [if_neg h1, if_neg (by omega)]
theorem HoldsN.widen {S o k n : Nat} {ns f : Nat → Nat} {w w' : World} (h : HoldsN S o k ns w w') (hk : k ≤ n) (hW : Wr w S o n f) : HoldsN S o n (fun j => if j < k then ns j else f j) w w' := by
  refine ⟨h.1, fun j => ?_⟩
  rw [h.2 j]
  by_cases h1 : o ≤ j ∧ j < o + k
  · rw [if_pos h1, if_pos (by omega)]
    simp only []
    rw [if_pos (by omega)]
  · by_cases h2 : o ≤ j ∧ j < o + n
    · rw [if_neg h1, if_pos h2]
      simp only []
      rw [if_neg (by omega)]
      have := (hW.2 (j - o) (by omega)).1
      rw [show o + (j - o) = j by omega] at this
      exact this
    · rw [if_neg h1, if_neg h2]
theorem HoldsN.cell {S o k n : Nat} {ns f : Nat → Nat} {w w' : World} (h : HoldsN S o k ns w w') (hW : Wr w S o n f) (hk : k < n) : w'.cell? ⟨S, o + k, none⟩ = some (.int .u32 (f k : Nat)) ∧ w'.frozen? ⟨S, o + k, none⟩ = false := by
  refine ⟨?_, (h.1.frozen _).trans (hW.2 k hk).2⟩
  rw [h.2, if_neg (by omega)]
  exact (hW.2 k hk).1
theorem HoldsN.wr {S o n : Nat} {ns f : Nat → Nat} {w w' : World} (h : HoldsN S o n ns w w') (hW : Wr w S o n f) : Wr w' S o n ns :=
  ⟨by rw [h.1.size]; exact hW.1, fun j hj => ⟨by rw [h.2, if_pos (by omega)]; congr 3; congr 1; omega, (h.1.frozen _).trans (hW.2 j hj).2⟩⟩
/-- Parts o .. of a list written within a longer one. -/
theorem HoldsN.splice {S b o k n : Nat} {ns f : Nat → Nat} {w w' : World} (h : HoldsN S (b + o) k ns w w') (hW : Wr w S b n f) (_hk : o + k ≤ n) : Wr w' S b n (spl f o k ns) :=
  ⟨by rw [h.1.size]; exact hW.1, fun j hj => ⟨by
    rw [h.2]
    by_cases h1 : o ≤ j ∧ j < o + k
    · rw [if_pos (by omega)]; unfold spl; rw [if_pos h1]; congr 3; congr 1; omega
    · rw [if_neg (by omega)]; unfold spl; rw [if_neg h1]; exact (hW.2 j hj).1, (h.1.frozen _).trans (hW.2 j hj).2⟩⟩
/-- A list that lies not in block S. -/
def Off (S : Nat) (a : Option Addr) : Prop := ∀ q, a = some q → q.block ≠ S
theorem RdA.but {S : Nat} {w w' : World} {a : Option Addr} {n : Nat} {f : Nat → Nat} (h : RdA w a n f) (ho : Off S a) (hb : But S w w') : RdA w' a n f := by
  rcases h with h | ⟨b, o, ha, hp⟩
  · exact .inl h
  · exact .inr ⟨b, o, ha, by rw [hb.size]; exact hp.1, fun j hj => (hb.cell (p := ⟨b, o + j, none⟩) (show b ≠ S from ho ⟨b, o, none⟩ ha)).trans (hp.2 j hj)⟩

/-- What addTo leaves. -/
def AddToPost (S o n m : Nat) (f g : Nat → Nat) (w : World) (e : Ending) (w' : World) : Prop :=
  ∃ (ns : Nat → Nat) (c : Nat), e = .returned (.int .u32 c) ∧ c ≤ 1 ∧ (∀ j, j < n → ns j < 4294967296) ∧ vb 4294967296 ns n + 4294967296 ^ n * c = vb 4294967296 f n + vb 4294967296 g m ∧ HoldsN S o n ns w w'
theorem vb_upd (P : Nat) (ns : Nat → Nat) (k s : Nat) : vb P (upd ns k s) (k + 1) = vb P ns k + P ^ k * s := by
  simp only [vb]
  rw [vb_congr (f := upd ns k s) (g := ns) (fun j hj => by simp [upd, show ¬ j = k by omega])]
  simp [upd]
theorem vb_rest (P : Nat) (ns f : Nat → Nat) (k n : Nat) (hk : k ≤ n) : vb P (fun j => if j < k then ns j else f j) n + vb P f k = vb P ns k + vb P f n := by
  obtain ⟨m, rfl⟩ : ∃ m, n = k + m := ⟨n - k, by omega⟩
  rw [vb_split, vb_split P f k m, vb_congr (f := fun j => if j < k then ns j else f j) (g := ns) (fun j hj => by simp [hj]), vb_congr (f := fun j => if k + j < k then ns (k + j) else f (k + j)) (g := fun j => f (k + j)) (n := m) (fun j _ => by rw [if_neg (by omega)])]
  omega
theorem upd_ltP {P : Nat} {d : Nat → Nat} {k y : Nat} (h : ∀ j, j < k → d j < P) (hy : y < P) : ∀ j, j < k + 1 → upd d k y j < P := fun j hj => by
  unfold upd
  by_cases e : j = k
  · simp [e, hy]
  · simp only [e, if_false]; exact h j (by omega)
def AddR (S o k m : Nat) (f g : Nat → Nat) (c : Nat) (w wr : World) : Prop := c ≤ 1 ∧ ∃ ns : Nat → Nat, HoldsN S o k ns w wr ∧ (∀ j, j < k → ns j < 4294967296) ∧ vb 4294967296 ns k + 4294967296 ^ k * c = vb 4294967296 f k + vb 4294967296 g m
theorem AddR.next {S o k m n : Nat} {f g : Nat → Nat} {c x : Nat} {w wr : World} (h : AddR S o k m f g c w wr) (hW : Wr w S o n f) (hk : k < n) (hx : x < 4294967296) (hf : f k < 4294967296)
    {g' : Nat → Nat} {m' : Nat} (hg : vb 4294967296 g' m' = vb 4294967296 g m + 4294967296 ^ k * x) : AddR S o (k + 1) m' f g' ((f k + x + c) / 4294967296) w (wr.setCell ⟨S, o + k, none⟩ (.int .u32 ((f k + x + c) % 4294967296 : Nat))) := by
  obtain ⟨hc, ns, hH, hn, hv⟩ := h
  refine ⟨by omega, upd ns k ((f k + x + c) % 4294967296), hH.next _ (by rw [(hW.2 k hk).1]; rfl), upd_ltP hn (by omega), ?_⟩
  rw [vb_upd, hg, Nat.pow_succ]
  exact add_step hv (by omega)

set_option maxRecDepth 100000 in
set_option maxHeartbeats 1000000 in
theorem addTo_any (S o n capS : Nat) (a : Option Addr) (m capD : Nat) (f g : Nat → Nat) (hn : (n : Int) ≤ 34000000000) (hmn : m ≤ n) (hf : ∀ j, j < n → f j < 4294967296) (hg : ∀ j, j < m → g j < 4294967296) (hO : Off S a) (w : World) (hW : Wr w S o n f) (hR : RdA w a m g) :
    Calls Try.prog 42 #[.slice (some ⟨S, o, none⟩) n capS, .slice a m capD] w (AddToPost S o n m f g w) := by
  have HF := Lib.hid hf; clear hf
  have HG := Lib.hid hg; clear hg
  have HO := Lib.hid hO; clear hO
  have HW := Lib.hid hW; clear hW
  have HR := Lib.hid hR; clear hR
  go_enter Try.func42, Try.ntmps42
  go_wp2
  go_loopw [5, 11] (fun cv iv wr => ∃ k c : Nat, k ≤ m ∧ iv = .int .i64 k ∧ cv = .int .u32 c ∧ Hid (AddR S o k k f g c w wr)) (fun _ iv _ => m - (intOf iv).toNat)
  case atStart => exact ⟨0, 0, by omega, rfl, rfl, Lib.hid ⟨by omega, f, HoldsN.start _ _ _ _, by omega, rfl⟩⟩
  case round =>
    obtain ⟨k, c, hk, rfl, rfl, H⟩ := hrel
    have hk0 : (0 : Int) ≤ k := by omega
    by_cases hlt : k < m
    · have hkm : (k : Int) < m := by omega
      have hkn : (k : Int) < n := by omega
      obtain ⟨p, hx, hpb, ⟨q, haq, hqb⟩, cb⟩ := HR.out.at_ capD k hlt
      obtain ⟨cA, fA⟩ := H.out.2.choose_spec.1.cell HW.out (show k < n by omega)
      have cb' : wr.cell? p = some (.int .u32 (g k : Nat)) := (H.out.2.choose_spec.1.1.cell (p := p) (by rw [← hqb]; exact HO.out q haq)).trans cb
      clear cb hpb haq hqb
      have HA := Lib.hid (add32_any (f k) (g k) c (HF.out k (by omega)) (HG.out k hlt) (by have := H.out.1; omega) wr)
      have HN := Lib.hid (H.out.next HW.out (show k < n by omega) (HG.out k hlt) (HF.out k (by omega)) (g' := g) (m' := k + 1) rfl)
      obtain ⟨s, hs⟩ : ∃ s, (f k + g k + c) % 4294967296 = s := ⟨_, rfl⟩
      obtain ⟨c', hc'⟩ : ∃ c', (f k + g k + c) / 4294967296 = c' := ⟨_, rfl⟩
      rw [hs, hc'] at HA HN
      clear hs hc'
      go_wp2_with fail
      refine HA.out.mono ?_
      rintro e w' ⟨rfl, rfl⟩
      go_wp2
      go_roundw
      case rel => exact ⟨k + 1, c', by omega, by go_num, rfl, HN⟩
      case measure => simp [intOf]; omega
    · obtain rfl : k = m := by omega
      go_wp2
      go_loopw [5, 8] (fun cv iv wr => ∃ i c : Nat, k ≤ i ∧ i ≤ n ∧ iv = .int .i64 i ∧ cv = .int .u32 c ∧ Hid (AddR S o i k f g c w wr)) (fun _ iv _ => n - (intOf iv).toNat)
      case atStart => exact ⟨k, c, by omega, hmn, rfl, rfl, H⟩
      case round =>
        obtain ⟨i, c, hki, hi, rfl, rfl, H2⟩ := hrel
        have hi0 : (0 : Int) ≤ i := by omega
        by_cases hin : i < n
        · have hin' : (i : Int) < n := by omega
          by_cases hz : c = 0
          · have hz1 : (((c : Nat) : Int) != 0) = false := by simp [hz]
            have HZ := Lib.hid hz; clear hz
            go_wp2
            go_ret
            obtain ⟨h1, ns, h2, h3, h4⟩ := H2.out
            refine ⟨_, c, rfl, h1, fun j hj => ?_, ?_, h2.widen (by omega) HW.out⟩
            · by_cases hji : j < i
              · simp only [hji, if_true]; exact h3 j hji
              · simp only [hji, if_false]; exact HF.out j hj
            · have := vb_rest 4294967296 ns f i n (by omega)
              rw [HZ.out] at h4 ⊢
              omega
          · have hz1 : (((c : Nat) : Int) != 0) = true := by simp [hz]
            obtain ⟨cA, fA⟩ := H2.out.2.choose_spec.1.cell HW.out hin
            have HA := Lib.hid (add32_any (f i) 0 c (HF.out i hin) (by omega) (by have := H2.out.1; omega) wr)
            have HN := Lib.hid (H2.out.next HW.out hin (show 0 < 4294967296 by omega) (HF.out i hin) (g' := g) (m' := k) (by rw [Nat.mul_zero, Nat.add_zero]))
            obtain ⟨s, hs⟩ : ∃ s, (f i + 0 + c) % 4294967296 = s := ⟨_, rfl⟩
            obtain ⟨c', hc'⟩ : ∃ c', (f i + 0 + c) / 4294967296 = c' := ⟨_, rfl⟩
            rw [hs, hc'] at HA HN
            clear hs hc' hz
            go_wp2_with fail
            refine HA.out.mono ?_
            rintro e w' ⟨rfl, rfl⟩
            go_wp2
            go_roundw
            case rel => exact ⟨i + 1, c', by omega, by omega, by go_num, rfl, HN⟩
            case measure => simp [intOf]; omega
        · obtain rfl : i = n := by omega
          go_wp2
          go_ret
          obtain ⟨h1, ns, h2, h3, h4⟩ := H2.out
          exact ⟨ns, c, rfl, h1, h3, h4, h2⟩
end Go.Proofs.Ytgegkffigjogcaa
namespace Go.Proofs.Ytgegkffigjogcaa
open Go.RowKit

theorem natmod (y : Nat) : ((y : Nat) : Int) % 4294967296 = ((y % 4294967296 : Nat) : Int) := by omega
theorem natdiv (y : Nat) : ((y : Nat) : Int) / 4294967296 = ((y / 4294967296 : Nat) : Int) := by omega
theorem mul_u32 {g x : Nat} (hg : g < 4294967296) (hx : x < 4294967296) : g * x ≤ 18446744065119617025 := by
  have := Nat.mul_le_mul (show g ≤ 4294967295 by omega) (show x ≤ 4294967295 by omega)
  omega
theorem addt_wrap (g x f c : Nat) (hg : g < 4294967296) (hx : x < 4294967296) (hf : f < 4294967296) (hc : c < 4294967296) :
    IntKind.u64.wrap (IntKind.u64.wrap (IntKind.u64.wrap (IntKind.u64.wrap (g : Int) * IntKind.u64.wrap (x : Int)) + IntKind.u64.wrap (f : Int)) + (c : Int)) = ((g * x + f + c : Nat) : Int) := by
  have h := mul_u32 hg hx
  have e : (g : Int) * (x : Int) = ((g * x : Nat) : Int) := by simp
  rw [IntKind.wrap_u64 (g : Int), IntKind.wrap_u64 (x : Int), IntKind.wrap_u64 (f : Int), Int.emod_eq_of_lt (by omega) (by omega), Int.emod_eq_of_lt (by omega) (by omega), Int.emod_eq_of_lt (a := (f : Int)) (by omega) (by omega), e]
  generalize g * x = q at *
  rw [IntKind.wrap_u64, IntKind.wrap_u64, IntKind.wrap_u64]
  omega
/-- What addTimes leaves. -/
def AddTimesPost (S o m x : Nat) (f g : Nat → Nat) (w : World) (e : Ending) (w' : World) : Prop :=
  ∃ (ns : Nat → Nat) (c : Nat), e = .returned (.int .u32 c) ∧ c < 4294967296 ∧ (∀ j, j < m → ns j < 4294967296) ∧ vb 4294967296 ns m + 4294967296 ^ m * c = vb 4294967296 f m + vb 4294967296 g m * x ∧ HoldsN S o m ns w w'
def AddTR (S o k x : Nat) (f g : Nat → Nat) (c : Nat) (w wr : World) : Prop := c < 4294967296 ∧ ∃ ns : Nat → Nat, HoldsN S o k ns w wr ∧ (∀ j, j < k → ns j < 4294967296) ∧ vb 4294967296 ns k + 4294967296 ^ k * c = vb 4294967296 f k + vb 4294967296 g k * x

theorem AddTR.next {S o k n x : Nat} {f g : Nat → Nat} {c : Nat} {w wr : World} (h : AddTR S o k x f g c w wr) (hW : Wr w S o n f) (hk : k < n) (hg : g k < 4294967296) (hf : f k < 4294967296) (hx : x < 4294967296) :
    AddTR S o (k + 1) x f g ((g k * x + f k + c) / 4294967296) w (wr.setCell ⟨S, o + k, none⟩ (.int .u32 ((g k * x + f k + c) % 4294967296 : Nat))) := by
  obtain ⟨hc, ns, hH, hn, hv⟩ := h
  have hm := mul_u32 hg hx
  refine ⟨by omega, upd ns k ((g k * x + f k + c) % 4294967296), hH.next _ (by rw [(hW.2 k hk).1]; rfl), upd_ltP hn (by omega), ?_⟩
  rw [vb_upd, Nat.pow_succ]
  exact addt_step hv (by omega)

set_option maxRecDepth 100000 in
set_option maxHeartbeats 1000000 in
theorem addTimes_any (S o n capS : Nat) (a : Option Addr) (m capD x : Nat) (f g : Nat → Nat) (hn : (n : Int) ≤ 34000000000) (hnc : n ≤ capS) (hmn : m ≤ n) (hx : x < 4294967296) (hf : ∀ j, j < n → f j < 4294967296) (hg : ∀ j, j < m → g j < 4294967296) (hO : Off S a) (w : World) (hW : Wr w S o n f) (hR : RdA w a m g) :
    Calls Try.prog 67 #[.slice (some ⟨S, o, none⟩) n capS, .slice a m capD, .int .u32 x] w (AddTimesPost S o m x f g w) := by
  have HF := Lib.hid hf; clear hf
  have HG := Lib.hid hg; clear hg
  have HO := Lib.hid hO; clear hO
  have HW := Lib.hid hW; clear hW
  have HR := Lib.hid hR; clear hR
  have HX := Lib.hid hx; clear hx
  have hsl := slice_nat (some ⟨S, o, none⟩) n capS m (by omega)
  go_enter Try.func67, Try.ntmps67
  go_wp2
  go_loopw [7, 17] (fun cv iv wr => ∃ k c : Nat, k ≤ m ∧ iv = .int .i64 k ∧ cv = .int .u64 c ∧ Hid (AddTR S o k x f g c w wr)) (fun _ iv _ => m - (intOf iv).toNat)
  case atStart => exact ⟨0, 0, by omega, rfl, rfl, Lib.hid ⟨by omega, f, HoldsN.start _ _ _ _, by omega, by simp [vb]⟩⟩
  case round =>
    obtain ⟨k, c, hk, rfl, rfl, H⟩ := hrel
    have hk0 : (0 : Int) ≤ k := by omega
    by_cases hlt : k < m
    · have hkm : (k : Int) < m := by omega
      have hkn : (k : Int) < n := by omega
      obtain ⟨p, hix, hpb, ⟨q, haq, hqb⟩, cb⟩ := HR.out.at_ capD k hlt
      obtain ⟨cA, fA⟩ := H.out.2.choose_spec.1.cell HW.out (show k < n by omega)
      have cb' : wr.cell? p = some (.int .u32 (g k : Nat)) := (H.out.2.choose_spec.1.1.cell (p := p) (by rw [← hqb]; exact HO.out q haq)).trans cb
      clear cb hpb haq hqb
      have HN := Lib.hid (AddTR.next H.out HW.out (show k < n by omega) (HG.out k hlt) (HF.out k (by omega)) HX.out)
      have HY := Lib.hid (addt_wrap (g k) x (f k) c (HG.out k hlt) HX.out (HF.out k (by omega)) H.out.1)
      go_wp2
      go_roundw
      case rel =>
        rw [HY.out, natmod, natdiv]
        exact ⟨k + 1, _, by omega, by go_num, rfl, HN⟩
      case measure => simp [intOf]; omega
    · obtain rfl : k = m := by omega
      go_wp2
      go_ret
      obtain ⟨h1, ns, h2, h3, h4⟩ := H.out
      refine ⟨ns, c, ?_, h1, h3, h4, h2⟩
      show Ending.returned (.int .u32 ((c : Int) % 4294967296)) = _
      rw [natmod, Nat.mod_eq_of_lt h1]

theorem subt_wrap (g x f c : Nat) (hg : g < 4294967296) (hx : x < 4294967296) (hf : f < 4294967296) (hc : c < 4294967296) :
    IntKind.u64.wrap (IntKind.u64.wrap (IntKind.u64.wrap (IntKind.u64.wrap (g : Int) * IntKind.u64.wrap (x : Int)) + IntKind.u64.wrap (bits BinOp.xor IntKind.u32 IntKind.u32.max (f : Int))) + (c : Int)) = ((g * x + (4294967295 - f) + c : Nat) : Int) := by
  rw [not_u32_nat f hf]
  exact addt_wrap g x (4294967295 - f) c hg hx (by omega) hc
/-- What takeTimes leaves. -/
def TakeTimesPost (S o m x : Nat) (f g : Nat → Nat) (w : World) (e : Ending) (w' : World) : Prop :=
  ∃ (ns : Nat → Nat) (c : Nat), e = .returned (.int .u32 c) ∧ c < 4294967296 ∧ (∀ j, j < m → ns j < 4294967296) ∧ vb 4294967296 ns m + vb 4294967296 g m * x = vb 4294967296 f m + 4294967296 ^ m * c ∧ HoldsN S o m ns w w'
def SubTR (S o k x : Nat) (f g : Nat → Nat) (c : Nat) (w wr : World) : Prop := c < 4294967296 ∧ ∃ ns : Nat → Nat, HoldsN S o k ns w wr ∧ (∀ j, j < k → ns j < 4294967296) ∧ vb 4294967296 ns k + vb 4294967296 g k * x = vb 4294967296 f k + 4294967296 ^ k * c

theorem SubTR.next {S o k n x : Nat} {f g : Nat → Nat} {c : Nat} {w wr : World} (h : SubTR S o k x f g c w wr) (hW : Wr w S o n f) (hk : k < n) (hg : g k < 4294967296) (hf : f k < 4294967296) (hx : x < 4294967296) :
    SubTR S o (k + 1) x f g ((g k * x + (4294967295 - f k) + c) / 4294967296) w (wr.setCell ⟨S, o + k, none⟩ (.int .u32 ((4294967295 - (g k * x + (4294967295 - f k) + c) % 4294967296 : Nat) : Int))) := by
  obtain ⟨hc, ns, hH, hn, hv⟩ := h
  have hm := mul_u32 hg hx
  refine ⟨by omega, upd ns k (4294967295 - (g k * x + (4294967295 - f k) + c) % 4294967296), hH.next _ (by rw [(hW.2 k hk).1]; rfl), upd_ltP hn (by omega), ?_⟩
  rw [vb_upd, Nat.pow_succ]
  exact subt_step hv (by omega)

set_option maxRecDepth 100000 in
set_option maxHeartbeats 1000000 in
theorem takeTimes_any (S o n capS : Nat) (a : Option Addr) (m capD x : Nat) (f g : Nat → Nat) (hn : (n : Int) ≤ 34000000000) (hnc : n ≤ capS) (hmn : m ≤ n) (hx : x < 4294967296) (hf : ∀ j, j < n → f j < 4294967296) (hg : ∀ j, j < m → g j < 4294967296) (hO : Off S a) (w : World) (hW : Wr w S o n f) (hR : RdA w a m g) :
    Calls Try.prog 75 #[.slice (some ⟨S, o, none⟩) n capS, .slice a m capD, .int .u32 x] w (TakeTimesPost S o m x f g w) := by
  have HF := Lib.hid hf; clear hf
  have HG := Lib.hid hg; clear hg
  have HO := Lib.hid hO; clear hO
  have HW := Lib.hid hW; clear hW
  have HR := Lib.hid hR; clear hR
  have HX := Lib.hid hx; clear hx
  have hsl := slice_nat (some ⟨S, o, none⟩) n capS m (by omega)
  go_enter Try.func75, Try.ntmps75
  go_wp2
  go_loopw [7, 17] (fun cv iv wr => ∃ k c : Nat, k ≤ m ∧ iv = .int .i64 k ∧ cv = .int .u64 c ∧ Hid (SubTR S o k x f g c w wr)) (fun _ iv _ => m - (intOf iv).toNat)
  case atStart => exact ⟨0, 0, by omega, rfl, rfl, Lib.hid ⟨by omega, f, HoldsN.start _ _ _ _, by omega, by simp [vb]⟩⟩
  case round =>
    obtain ⟨k, c, hk, rfl, rfl, H⟩ := hrel
    have hk0 : (0 : Int) ≤ k := by omega
    by_cases hlt : k < m
    · have hkm : (k : Int) < m := by omega
      have hkn : (k : Int) < n := by omega
      obtain ⟨p, hix, hpb, ⟨q, haq, hqb⟩, cb⟩ := HR.out.at_ capD k hlt
      obtain ⟨cA, fA⟩ := H.out.2.choose_spec.1.cell HW.out (show k < n by omega)
      have cb' : wr.cell? p = some (.int .u32 (g k : Nat)) := (H.out.2.choose_spec.1.1.cell (p := p) (by rw [← hqb]; exact HO.out q haq)).trans cb
      clear cb hpb haq hqb
      have HN := Lib.hid (SubTR.next H.out HW.out (show k < n by omega) (HG.out k hlt) (HF.out k (by omega)) HX.out)
      have HY := Lib.hid (subt_wrap (g k) x (f k) c (HG.out k hlt) HX.out (HF.out k (by omega)) H.out.1)
      go_wp2
      go_roundw
      case rel =>
        rw [show (if IntKind.u32.signed = true then (-1 : Int) else IntKind.u32.max) = IntKind.u32.max from rfl, HY.out, natmod, natdiv, not_u32_nat _ (Nat.mod_lt _ (by omega))]
        exact ⟨k + 1, _, by omega, by go_num, rfl, HN⟩
      case measure => simp [intOf]; omega
    · obtain rfl : k = m := by omega
      go_wp2
      go_ret
      obtain ⟨h1, ns, h2, h3, h4⟩ := H.out
      refine ⟨ns, c, ?_, h1, h3, h4, h2⟩
      show Ending.returned (.int .u32 ((c : Int) % 4294967296)) = _
      rw [natmod, Nat.mod_eq_of_lt h1]
end Go.Proofs.Ytgegkffigjogcaa
namespace Go.Proofs
open Go.Shelf
def Try.lays128_ren : Go.Shelf.Ren := ⟨fun | 128 => 53 | n => n, fun | 51 => 32 | 3 => 3 | 4 => 4 | 46 => 62 | 5 => 5 | 9 => 9 | n => n, fun | n => n⟩
theorem Try.lays128 : Go.Proofs.Lays.n128 Try.prog Try.lays128_ren := {
  mixed := by kernel_rfl
  f128 := Try.func53.trans (congrArg some (by kernel_rfl))
  t3 := Try.underlying3
  a3 := Try.isAgg3
  z3 := Try.sizeOf3
  v3 := Try.zeroValue3
  t4 := Try.underlying4
  a4 := Try.isAgg4
  z4 := Try.sizeOf4
  v4 := Try.zeroValue4
  t5 := Try.underlying5
  a5 := Try.isAgg5
  z5 := Try.sizeOf5
  v5 := Try.zeroValue5
  t9 := Try.underlying9
  a9 := Try.isAgg9
  z9 := Try.sizeOf9
  v9 := Try.zeroValue9
  t46 := Try.underlying62
  a46 := Try.isAgg62
  z46 := Try.sizeOf62
  v46 := Try.zeroValue62
  t51 := Try.underlying32
  a51 := Try.isAgg32
  z51 := Try.sizeOf32
  v51 := Try.zeroValue32 }
/-- bits.Len32: "Len32 returns the minimum number of bits required to represent x; the result is 0 for x == 0.": IT RETURNS 'Lib.bitLen x'; the world is as it was. ('h0', 'h1': x is a uint32.) (LAID: no walk: one application.) -/
theorem Try.bits_Len32 (x : Int) (w : World) (h0 : 0 ≤ x) (h1 : x ≤ 4294967295) :
    Calls Try.prog 53 #[.int .u32 x] w fun e w' => e = .returned (.int .i64 (Lib.bitLen x.toNat)) ∧ w' = w := Any.bits_Len32 Try.lays128 x w h0 h1
def Try.lays133_ren : Go.Shelf.Ren := ⟨fun | 133 => 73 | 128 => 53 | n => n, fun | 51 => 32 | 3 => 3 | 4 => 4 | 46 => 62 | 5 => 5 | 9 => 9 | n => n, fun | n => n⟩
theorem Try.lays133 : Go.Proofs.Lays.n133 Try.prog Try.lays133_ren := {
  mixed := by kernel_rfl
  f128 := Try.func53.trans (congrArg some (by kernel_rfl))
  f133 := Try.func73.trans (congrArg some (by kernel_rfl))
  t3 := Try.underlying3
  a3 := Try.isAgg3
  z3 := Try.sizeOf3
  v3 := Try.zeroValue3
  t4 := Try.underlying4
  a4 := Try.isAgg4
  z4 := Try.sizeOf4
  v4 := Try.zeroValue4
  t5 := Try.underlying5
  a5 := Try.isAgg5
  z5 := Try.sizeOf5
  v5 := Try.zeroValue5
  t9 := Try.underlying9
  a9 := Try.isAgg9
  z9 := Try.sizeOf9
  v9 := Try.zeroValue9
  t46 := Try.underlying62
  a46 := Try.isAgg62
  z46 := Try.sizeOf62
  v46 := Try.zeroValue62
  t51 := Try.underlying32
  a51 := Try.isAgg32
  z51 := Try.sizeOf32
  v51 := Try.zeroValue32 }
/-- bits.LeadingZeros32: "LeadingZeros32 returns the number of leading zero bits in x; the result is 32 for x == 0.": IT RETURNS '32 - Lib.bitLen x'; the world is as it was. ITS CALLEE bits.Len32 IS MET BY ITS OWN CONTRACT OFF THE SHELF (lay that first): entered in place it sends the kernel out of memory. (LAID: no walk: one application.) -/
theorem Try.bits_LeadingZeros32 (x : Int) (w : World) (h0 : 0 ≤ x) (h1 : x ≤ 4294967295) :
    Calls Try.prog 73 #[.int .u32 x] w fun e w' => e = .returned (.int .i64 (32 - (Lib.bitLen x.toNat : Int))) ∧ w' = w := Any.bits_LeadingZeros32 Try.lays133 x w h0 h1
def Try.lays134_ren : Go.Shelf.Ren := ⟨fun | 134 => 79 | 129 => 80 | n => n, fun | 53 => 59 | 3 => 3 | 4 => 4 | 46 => 62 | 5 => 5 | 9 => 9 | n => n, fun | n => n⟩
theorem Try.lays134 : Go.Proofs.Lays.n134 Try.prog Try.lays134_ren := {
  mixed := by kernel_rfl
  f129 := Try.func80.trans (congrArg some (by kernel_rfl))
  f134 := Try.func79.trans (congrArg some (by kernel_rfl))
  t3 := Try.underlying3
  a3 := Try.isAgg3
  z3 := Try.sizeOf3
  v3 := Try.zeroValue3
  t4 := Try.underlying4
  a4 := Try.isAgg4
  z4 := Try.sizeOf4
  v4 := Try.zeroValue4
  t5 := Try.underlying5
  a5 := Try.isAgg5
  z5 := Try.sizeOf5
  v5 := Try.zeroValue5
  t9 := Try.underlying9
  a9 := Try.isAgg9
  z9 := Try.sizeOf9
  v9 := Try.zeroValue9
  t46 := Try.underlying62
  a46 := Try.isAgg62
  z46 := Try.sizeOf62
  v46 := Try.zeroValue62
  t53 := Try.underlying59
  a53 := Try.isAgg59
  z53 := Try.sizeOf59
  v53 := Try.zeroValue59 }
/-- bits.LeadingZeros64: "LeadingZeros64 returns the number of leading zero bits in x; the result is 64 for x == 0.": IT RETURNS '64 - Lib.bitLen x'; the world is as it was. ITS CALLEE bits.Len64 IS MET BY ITS OWN CONTRACT OFF THE SHELF (lay that first): entered in place it sends the kernel out of memory. (LAID: no walk: one application.) -/
theorem Try.bits_LeadingZeros64 (x : Int) (w : World) (h0 : 0 ≤ x) (h1 : x ≤ 18446744073709551615) :
    Calls Try.prog 79 #[.int .u64 x] w fun e w' => e = .returned (.int .i64 (64 - (Lib.bitLen x.toNat : Int))) ∧ w' = w := Any.bits_LeadingZeros64 Try.lays134 x w h0 h1
def Try.lays129_ren : Go.Shelf.Ren := ⟨fun | 129 => 80 | n => n, fun | 53 => 59 | 3 => 3 | 4 => 4 | 46 => 62 | 5 => 5 | 9 => 9 | n => n, fun | n => n⟩
theorem Try.lays129 : Go.Proofs.Lays.n129 Try.prog Try.lays129_ren := {
  mixed := by kernel_rfl
  f129 := Try.func80.trans (congrArg some (by kernel_rfl))
  t3 := Try.underlying3
  a3 := Try.isAgg3
  z3 := Try.sizeOf3
  v3 := Try.zeroValue3
  t4 := Try.underlying4
  a4 := Try.isAgg4
  z4 := Try.sizeOf4
  v4 := Try.zeroValue4
  t5 := Try.underlying5
  a5 := Try.isAgg5
  z5 := Try.sizeOf5
  v5 := Try.zeroValue5
  t9 := Try.underlying9
  a9 := Try.isAgg9
  z9 := Try.sizeOf9
  v9 := Try.zeroValue9
  t46 := Try.underlying62
  a46 := Try.isAgg62
  z46 := Try.sizeOf62
  v46 := Try.zeroValue62
  t53 := Try.underlying59
  a53 := Try.isAgg59
  z53 := Try.sizeOf59
  v53 := Try.zeroValue59 }
/-- bits.Len64: "Len64 returns the minimum number of bits required to represent x; the result is 0 for x == 0.": IT RETURNS 'Lib.bitLen x'; the world is as it was. ('h0', 'h1': x is a uint64.) (LAID: no walk: one application.) -/
theorem Try.bits_Len64 (x : Int) (w : World) (h0 : 0 ≤ x) (h1 : x ≤ 18446744073709551615) :
    Calls Try.prog 80 #[.int .u64 x] w fun e w' => e = .returned (.int .i64 (Lib.bitLen x.toNat)) ∧ w' = w := Any.bits_Len64 Try.lays129 x w h0 h1
end Go.Proofs

/- What bailiwickref01.Divide comes to: quotient and rest of digits by others that are not nought. -/
import Derived.Test.YtgegkffigjogcaaMinus
import Derived.Test.YtgegkffigjogcaaProd
namespace Go.Proofs.Ytgegkffigjogcaa
open Go.RowKit

/-- The digits with one more below them. -/
def below1 (x : Nat) (d : Nat → Nat) (j : Nat) : Nat := if j = 0 then x else d (j - 1)
theorem vd_below1 (x : Nat) (d : Nat → Nat) : ∀ n, vd (below1 x d) (n + 1) = x + 65536 * vd d n
  | 0 => by simp [vd, below1]
  | n + 1 => by
    rw [vd, vd_below1 x d n, vd, Nat.mul_add, ← Nat.mul_assoc, Nat.pow_succ, Nat.mul_comm (65536 ^ n) 65536]
    simp only [below1]
    rw [if_neg (by omega), Nat.add_sub_cancel, Nat.add_assoc]
theorem below1_lt {x n : Nat} {d : Nat → Nat} (hx : x < 65536) (hd : ∀ j, j < n → d j < 65536) : ∀ j, j < n + 1 → below1 x d j < 65536 := fun j hj => by
  unfold below1; split
  · exact hx
  · exact hd _ (by omega)
theorem dl_below1 (x : Nat) (d : Nat → Nat) (n : Nat) : Value.int .u64 (x : Nat) :: dl d n = dl (below1 x d) (1 + n) := by
  unfold dl
  rw [Nat.add_comm 1 n, List.range_succ_eq_map, List.map_cons, List.map_map]
  rfl

/-- What the inner rounds keep: c bits are still to come of the digit i. -/
structure DivR (w : World) (n m i c : Nat) (da q : Nat → Nat) (D : Nat) (Q g nr : Nat) (dr : Nat → Nat) (wr : World) : Prop where
  old : Below w.heap.size w wr
  rest : Dg wr g nr dr
  apart : w.heap.size < g
  hQ : Q = w.heap.size
  restl : ∀ j, j < nr → dr j < 65536
  long : nr ≤ m + 1
  out : OutAt wr Q n q
  outl : ∀ j, j < n → q j < 65536
  todo : ∀ j, j < i → q j = 0
  bits : q i % 2 ^ c = 0
  sum : vd q n * D + (vd da i + 65536 ^ i * vd dr nr) = vd da n
  less : vd dr nr < 2 ^ c * D
theorem DivR.gQ {w wr : World} {n m i c D Q g nr : Nat} {da q dr : Nat → Nat} (h : DivR w n m i c da q D Q g nr dr wr) : g ≠ Q := by have h1 := h.apart; have h2 := h.hQ; omega

theorem OutAt.below {wr w' : World} {B L : Nat} {o : Nat → Nat} (h : OutAt wr B L o) (hb : Below wr.heap.size wr w') : OutAt w' B L o :=
  ⟨Nat.lt_of_lt_of_le h.1 hb.size, fun j hj => ⟨(hb.cell (p := ⟨B, j, none⟩) h.1).trans (h.2 j hj).1, (hb.frozen (p := ⟨B, j, none⟩) h.1).trans (h.2 j hj).2⟩⟩
theorem div_no {r c D : Nat} (h : ¬ 2 ^ c * D ≤ r) : r < 2 ^ c * D := by omega
theorem bits_half {x c : Nat} (h : x % 2 ^ (c + 1) = 0) : x % 2 ^ c = 0 := by
  rw [Nat.pow_succ] at h
  have h1 : x % (2 ^ c * 2) % 2 ^ c = x % 2 ^ c := Nat.mod_mul_right_mod _ _ _
  rw [h, Nat.zero_mod] at h1
  exact h1.symm
theorem bits_more {x c : Nat} (h : x % 2 ^ (c + 1) = 0) : (x + 2 ^ c) % 2 ^ c = 0 := by rw [Nat.add_mod_right]; exact bits_half h
theorem bits_room {x c : Nat} (h : x % 2 ^ (c + 1) = 0) (hx : x < 65536) (hc : c < 16) : x + 2 ^ c < 65536 := by
  have hp := Nat.two_pow_pos c
  obtain ⟨k, hk⟩ := Nat.dvd_of_mod_eq_zero h
  have hd : (65536 : Nat) = 2 ^ (c + 1) * 2 ^ (15 - c) := by rw [← Nat.pow_add, show c + 1 + (15 - c) = 16 by omega]
  have hk2 : k < 2 ^ (15 - c) := by
    rw [hk, hd] at hx
    exact Nat.lt_of_mul_lt_mul_left hx
  have h3 : 2 ^ (c + 1) * (k + 1) ≤ 2 ^ (c + 1) * 2 ^ (15 - c) := Nat.mul_le_mul_left _ hk2
  rw [← hd, Nat.mul_add, ← hk, Nat.pow_succ] at h3
  omega
theorem bits_or_up {x c : Nat} (h : x % 2 ^ (c + 1) = 0) (hx : x < 65536) (hc : c < 16) : bits .or .u64 (x : Int) (2 ^ c) = ((x + 2 ^ c : Nat) : Int) := by
  have hp : 2 ^ c < 65536 := by
    rw [show (65536 : Nat) = 2 ^ 16 by rfl]; exact Nat.pow_lt_pow_right (by omega) hc
  have h1 := bits_or_u64_nat x (2 ^ c) (by omega) (by omega)
  have e0 : ((2 ^ c : Nat) : Int) = 2 ^ c := by simp
  rw [e0] at h1
  rw [h1]
  congr 1
  obtain ⟨k, hk⟩ := Nat.dvd_of_mod_eq_zero h
  rw [hk, ← Nat.two_pow_add_eq_or_of_lt (Nat.pow_lt_pow_right (by omega) (Nat.lt_succ_self c))]
theorem div_sum {V q r i' R D A P t D' : Nat} (h : q * D + (A + P * r) = V) (hr : r = R + D') (hD' : D' = t * D) (hi : i' = q + P * t) : i' * D + (A + P * R) = V := by
  subst hi hD' hr
  rw [← h]; grind
/-- .. one bit less. -/
theorem DivR.zero {w wr : World} {n m i c D Q g nr : Nat} {da q dr : Nat → Nat} (h : DivR w n m i (c + 1) da q D Q g nr dr wr) {w' : World} (hb : Below wr.heap.size wr w') (hl : ¬ 2 ^ c * D ≤ vd dr nr) : DivR w n m i c da q D Q g nr dr w' :=
  ⟨h.old.trans (hb.mono h.old.size), h.rest.below hb, h.apart, h.hQ, h.restl, h.long, h.out.below hb, h.outl, h.todo, bits_half h.bits, h.sum, div_no hl⟩
theorem DivR.one {w wr : World} {n m i c D Q g nr : Nat} {da q dr : Nat → Nat} (h : DivR w n m i (c + 1) da q D Q g nr dr wr) {w' : World} {g' : Nat} {dr' : Nat → Nat} (hi : i < n) (hc : c < 16) (hb : Below wr.heap.size wr w') (hl : 2 ^ c * D ≤ vd dr nr)
    (hr : Dg w' g' nr dr') (hg : wr.heap.size ≤ g') (hrl : ∀ j, j < nr → dr' j < 65536) (hv : vd dr' nr = vd dr nr - 2 ^ c * D) :
    DivR w n m i c da (upd q i (q i + 2 ^ c)) D Q g' nr dr' (w'.setCell ⟨Q, i, none⟩ (.int .u64 ((q i + 2 ^ c : Nat) : Int))) := by
  have hlt := h.out.1
  have hroom := bits_room h.bits (h.outl i hi) hc
  have hq := vd_set q i (q i + 2 ^ c) n hi
  have hQg : g' ≠ Q := by omega
  refine ⟨(h.old.trans (hb.mono h.old.size)).setCell (by show w.heap.size ≤ Q; rw [h.hQ]; exact Nat.le_refl _) _, ⟨by simpa using hr.1, fun j hj => ?_⟩, by have := h.old.size; have := h.hQ; omega, h.hQ, hrl, h.long, ?_, fun j hj => ?_, fun j hj => ?_, ?_, ?_, ?_⟩
  · rw [World.cell?_setCell_other _ _ _ _ (fun e => hQg (congrArg Addr.block e).symm)]; exact hr.2 j hj
  · exact (h.out.below hb).set i _ hi
  · unfold upd; split
    · exact hroom
    · exact h.outl j hj
  · unfold upd; rw [if_neg (by omega)]; exact h.todo j hj
  · simp only [upd]; rw [if_pos trivial]; exact bits_more h.bits
  · refine div_sum h.sum (r := vd dr nr) (R := vd dr' nr) (D' := 2 ^ c * D) (t := 2 ^ c) (by omega) rfl ?_
    rw [Nat.mul_add] at hq; omega
  · rw [hv]
    have h1 := h.less
    rw [Nat.pow_succ, Nat.mul_comm (2 ^ c) 2, Nat.mul_assoc] at h1
    omega
end Go.Proofs.Ytgegkffigjogcaa

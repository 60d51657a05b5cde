/- What nat.From comes to, called with any bytes. -/
import Derived.Test.YtgegkffigjogcaaNApi
import Derived.Test.YtgegkffigjogcaaNRaise
import Derived.Lib.ItoaMem
namespace Go.Proofs.Ytgegkffigjogcaa
open Go.RowKit

/-- A list, or none, of n bytes. -/
def RdB (w : World) (a : Option Addr) (n : Nat) (f : Nat → Nat) : Prop := n = 0 ∨ ∃ b o, a = some ⟨b, o, none⟩ ∧ b < w.heap.size ∧ ∀ j, j < n → w.cell? ⟨b, o + j, none⟩ = some (.int .u8 (f j : Nat))
theorem RdB.below {w w' : World} {a : Option Addr} {n : Nat} {f : Nat → Nat} (h : RdB w a n f) (hb : Below w.heap.size w w') : RdB w' a n f := by
  rcases h with h | ⟨b, o, h1, h2, h3⟩
  · exact .inl h
  · exact .inr ⟨b, o, h1, Nat.lt_of_lt_of_le h2 hb.size, fun j hj => (hb.cell (p := ⟨b, o + j, none⟩) h2).trans (h3 j hj)⟩
theorem RdB.at_ {w : World} {a : Option Addr} {n : Nat} {f : Nat → Nat} (h : RdB w a n f) (cap k : Nat) (hk : k < n) : ∃ p : Addr, (∀ w, (Instr.indexAt 43 (.slice a n cap) (.int .i64 (k : Int))).run Try.prog w = .ok (.pointer (some p)) w) ∧ p.block < w.heap.size ∧ w.cell? p = some (.int .u8 (f k : Nat)) := by
  rcases h with rfl | ⟨b, o, rfl, h1, h2⟩
  · omega
  · refine ⟨⟨b, o + k, none⟩, fun w => ?_, h1, h2 k hk⟩
    have h0 : (0 : Int) ≤ k := by omega
    have h1 : (k : Int) < n := by omega
    go_simp
theorem RdB.next {w : World} {a : Option Addr} {m cap : Nat} {f : Nat → Nat} (h : RdB w a (m + 1) f) (hc : m + 1 ≤ cap) : ∃ a', (∀ w, (Instr.slice 43 (.slice a (m + 1) cap) (some (.int .i64 1)) none none).run Try.prog w = .ok (.slice a' m (cap - 1)) w) ∧ RdB w a' m (fun j => f (1 + j)) := by
  rcases h with h | ⟨b, o, rfl, h1, h2⟩
  · omega
  · have hsz : (sizeOf (Try.prog.elem 43)).run Try.prog w = .ok 1 w := by kernel_rfl
    refine ⟨if cap = 1 then some ⟨b, o, none⟩ else some ⟨b, o + 1, none⟩, fun w => ?_, ?_⟩
    · have hsz : (sizeOf (Try.prog.elem 43)).run Try.prog w = .ok 1 w := by kernel_rfl
      have hr := run_slice_l (P := Try.prog) w 43 (some ⟨b, o, none⟩) (m + 1) cap (by kernel_rfl) .i64 1 (by omega) (by omega)
      rw [hr, hsz]
      simp only [Result.andThen, sliced]
      rw [show (1 : Int).toNat = 1 from rfl, Nat.add_sub_cancel]
      by_cases h : cap = 1
      · rw [if_pos h, if_pos h]
      · rw [if_neg h, if_neg h]; simp [Addr.add]
    · by_cases h : cap = 1
      · exact .inl (by omega)
      · rw [if_neg h]; exact .inr ⟨b, o + 1, rfl, h1, fun j hj => by have := h2 (1 + j) (by omega); rwa [show o + (1 + j) = o + 1 + j by omega] at this⟩
/-- The number that bytes say, the highest first. -/
def bw (f : Nat → Nat) : Nat → Nat
  | 0 => 0
  | n + 1 => 256 * bw f n + f n
theorem bw_lt {f : Nat → Nat} : ∀ {n : Nat}, (∀ j, j < n → f j < 256) → bw f n < 256 ^ n
  | 0, _ => by simp [bw]
  | n + 1, h => by
    have h1 := bw_lt (n := n) (fun j hj => h j (by omega))
    have h2 := h n (by omega)
    simp only [bw, Nat.pow_succ]
    omega
theorem bw_skip {f : Nat → Nat} {k : Nat} (h : ∀ j, j < k → f j = 0) : ∀ m, bw f (k + m) = bw (fun j => f (k + j)) m
  | 0 => by
    rw [Nat.add_zero]
    induction k with
    | zero => rfl
    | succ k ih =>
      simp only [bw] at ih ⊢
      rw [ih (fun j hj => h j (by omega)), h k (by omega)]
  | m + 1 => by
    rw [← Nat.add_assoc]
    simp only [bw]
    rw [bw_skip h m]
theorem bw_ge {g : Nat → Nat} (h : g 0 ≠ 0) : ∀ m, 256 ^ m ≤ bw g (m + 1)
  | 0 => by simp only [bw]; omega
  | m + 1 => by
    have := bw_ge h m
    simp only [bw, Nat.pow_succ] at this ⊢
    omega
theorem lim_gen (k j : Nat) (h : j = 4 * k) : (4294967296 : Nat) ^ k = 256 ^ j := by rw [h, Nat.pow_mul]
theorem lim_bytes : LIM = 256 ^ 4096 := by
  unfold LIM
  exact lim_gen 1024 4096 (by omega)
theorem bw_lim {g : Nat → Nat} {m K : Nat} (hg : ∀ j, j < m → g j < 256) (h : m = 0 ∨ g 0 ≠ 0) : 256 ^ K ≤ bw g m ↔ K < m := by
  constructor
  · intro h1
    exact Nat.lt_of_not_le (fun h2 => absurd (Nat.lt_of_lt_of_le (bw_lt hg) (Nat.pow_le_pow_right (by omega) h2)) (Nat.not_lt.2 h1))
  · intro h1
    obtain ⟨k, rfl⟩ : ∃ k, m = k + 1 := ⟨m - 1, by omega⟩
    exact Nat.le_trans (Nat.pow_le_pow_right (by omega) (Nat.le_of_lt_succ h1)) (bw_ge (h.resolve_left (by omega)) k)
theorem bw_long {g : Nat → Nat} {m : Nat} (hg : ∀ j, j < m → g j < 256) (h : m = 0 ∨ g 0 ≠ 0) : cdN (bw g m) = if 4096 < m then 2 else 0 := by
  have hk := bw_lim (K := 4096) hg h
  unfold cdN
  rw [lim_bytes]
  by_cases e : 4096 < m
  · rw [if_pos e, if_pos (hk.2 e)]
  · rw [if_neg e, if_neg (fun h1 => e (hk.1 h1))]
/-- The list while bytes are written into it, the highest first. -/
structure FromR (B L m i : Nat) (g o : Nat → Nat) (w wr : World) : Prop where
  out : Wr wr B 0 L o
  old : Below w.heap.size w wr
  lt : ∀ j, j < L → o j < 4294967296
  num : vb 4294967296 o L = 256 ^ (m - i) * bw g i
theorem pow_256 (r : Nat) : (256 : Nat) ^ r = 2 ^ (8 * r) := by rw [Nat.pow_mul]
theorem from_or {D x r h : Nat} (hD : D = 256 ^ (r + 1) * h) (hx : x < 256) (hl : D < 4294967296) (hr : r < 4) : bits .or .u32 (D : Int) ((x : Int) * 2 ^ (8 * r) % 4294967296) = ((D + 256 ^ r * x : Nat) : Int) ∧ D + 256 ^ r * x < 4294967296 := by
  have h256 : 256 ^ (r + 1) = 256 * 256 ^ r := by rw [Nat.pow_succ, Nat.mul_comm]
  have hp : 0 < 256 ^ r := Nat.pow_pos (by omega)
  have hx2 : 256 ^ r * x < 256 ^ (r + 1) := by
    rw [Nat.pow_succ]; exact Nat.mul_lt_mul_of_pos_left hx hp
  obtain ⟨c, hc⟩ : ∃ c, 256 ^ (r + 1) * c = 4294967296 := ⟨256 ^ (3 - r), by rw [← Nat.pow_add, show r + 1 + (3 - r) = 4 by omega]⟩
  have hh : h + 1 ≤ c := by
    rw [hD, ← hc] at hl
    exact Nat.lt_of_mul_lt_mul_left hl
  have hsum : D + 256 ^ r * x < 4294967296 := by
    have h1 := Nat.mul_le_mul_left (256 ^ (r + 1)) hh
    rw [Nat.mul_add, Nat.mul_one, ← hD, hc] at h1
    omega
  refine ⟨?_, hsum⟩
  have e1 : (x : Int) * 2 ^ (8 * r) % 4294967296 = ((256 ^ r * x : Nat) : Int) := by
    have : ((x : Int) * 2 ^ (8 * r)) = ((256 ^ r * x : Nat) : Int) := by
      rw [pow_256]; generalize 8 * r = s; simp [Int.mul_comm]
    rw [this, natmod2, Nat.mod_eq_of_lt (by omega)]
  rw [e1, (bits_u32_nat D _ hl (by omega)).2.1, hD, pow_256, Nat.two_pow_add_eq_or_of_lt (by rw [← pow_256]; exact hx2)]
theorem FromR.next {B L m i p q r : Nat} {g o : Nat → Nat} {w wr : World} (h : FromR B L m i g o w wr) (hB : w.heap.size ≤ B) (hi : i < m) (hp : p = m - 1 - i) (hq : p = 4 * q + r) (hr : r < 4) (hqL : q < L) (hx : g i < 256) :
    bits .or .u32 ((o q : Nat) : Int) (((g i : Nat) : Int) * 2 ^ (8 * r) % 4294967296) = ((o q + 256 ^ r * g i : Nat) : Int) ∧
    FromR B L m (i + 1) g (upd o q (o q + 256 ^ r * g i)) w (wr.setCell ⟨B, q, none⟩ (.int .u32 ((o q + 256 ^ r * g i : Nat) : Int))) := by
  have hd := vb_digit h.lt q hqL
  have e1 : m - i = p + 1 := by omega
  have e2 : (256 : Nat) ^ (p + 1) = 4294967296 ^ q * 256 ^ (r + 1) := by rw [hq, show (4294967296 : Nat) = 256 ^ 4 from rfl, ← Nat.pow_mul, ← Nat.pow_add]; congr 1
  obtain ⟨c, hc⟩ : ∃ c, 256 ^ (r + 1) * c = 4294967296 := ⟨256 ^ (3 - r), by rw [← Nat.pow_add, show r + 1 + (3 - r) = 4 by omega]⟩
  have hD : ∃ y, o q = 256 ^ (r + 1) * y := by
    rw [h.num, e1, e2, Nat.mul_assoc, Nat.mul_div_cancel_left _ (Nat.pow_pos (by omega)), ← hc, Nat.mul_mod_mul_left] at hd
    exact ⟨_, hd⟩
  obtain ⟨y, hy⟩ := hD
  obtain ⟨f1, f2⟩ := from_or hy hx (h.lt q hqL) hr
  refine ⟨f1, by have := h.out.set q (o q + 256 ^ r * g i) hqL; rwa [Nat.zero_add] at this, h.old.setCell hB _, fun j hj => ?_, ?_⟩
  · unfold upd; split
    · exact f2
    · exact h.lt j hj
  · have hs := vb_set 4294967296 o q (o q + 256 ^ r * g i) L hqL
    have hn := h.num
    have e3 : m - (i + 1) = p := by omega
    rw [e1] at hn
    rw [e3]
    simp only [bw]
    have e4 : (256 : Nat) ^ p = 4294967296 ^ q * 256 ^ r := by rw [hq, show (4294967296 : Nat) = 256 ^ 4 from rfl, ← Nat.pow_mul, ← Nat.pow_add]
    have e5 : (256 : Nat) ^ (p + 1) * bw g i = 256 ^ p * (256 * bw g i) := by rw [Nat.pow_succ, Nat.mul_assoc]
    rw [hn, e5, Nat.mul_add (4294967296 ^ q), ← Nat.mul_assoc (4294967296 ^ q), ← e4] at hs
    rw [Nat.mul_add]
    omega
end Go.Proofs.Ytgegkffigjogcaa

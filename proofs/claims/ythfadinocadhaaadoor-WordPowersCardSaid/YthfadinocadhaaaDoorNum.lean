/- Words and wider numbers as lists of parts of 64 bits, in plain numbers: no program is named here. -/
import Derived.WalkKit
import Derived.Laws.Externs
namespace Go.Proofs.YthfadinocadhaaaDoor
open Go.RowKit

/-- 2^64, and 2^256. -/
abbrev Bw : Nat := 18446744073709551616
abbrev Ww : Nat := 115792089237316195423570985008687907853269984665640564039457584007913129639936

/-- THE VALUE OF A WORD whose number is x (modulo 2^256). -/
def wv (x : Nat) : Value := .agg #[.int .u64 ((x % 18446744073709551616 : Nat) : Int), .int .u64 ((x / 18446744073709551616 % 18446744073709551616 : Nat) : Int), .int .u64 ((x / 340282366920938463463374607431768211456 % 18446744073709551616 : Nat) : Int), .int .u64 ((x / 6277101735386680763835789423207666416102355444464034512896 % 18446744073709551616 : Nat) : Int)]

/-- The number of four parts. -/
def n4 (a0 a1 a2 a3 : Nat) : Nat := a0 + 18446744073709551616 * a1 + 340282366920938463463374607431768211456 * a2 + 6277101735386680763835789423207666416102355444464034512896 * a3

theorem wv_n4 {a0 a1 a2 a3 : Nat} (h0 : a0 < 18446744073709551616) (h1 : a1 < 18446744073709551616) (h2 : a2 < 18446744073709551616) (h3 : a3 < 18446744073709551616) :
    wv (n4 a0 a1 a2 a3) = .agg #[.int .u64 a0, .int .u64 a1, .int .u64 a2, .int .u64 a3] := by
  unfold wv n4
  have e0 : (a0 + 18446744073709551616 * a1 + 340282366920938463463374607431768211456 * a2 + 6277101735386680763835789423207666416102355444464034512896 * a3) % 18446744073709551616 = a0 := by omega
  have e1 : (a0 + 18446744073709551616 * a1 + 340282366920938463463374607431768211456 * a2 + 6277101735386680763835789423207666416102355444464034512896 * a3) / 18446744073709551616 % 18446744073709551616 = a1 := by omega
  have e2 : (a0 + 18446744073709551616 * a1 + 340282366920938463463374607431768211456 * a2 + 6277101735386680763835789423207666416102355444464034512896 * a3) / 340282366920938463463374607431768211456 % 18446744073709551616 = a2 := by omega
  have e3 : (a0 + 18446744073709551616 * a1 + 340282366920938463463374607431768211456 * a2 + 6277101735386680763835789423207666416102355444464034512896 * a3) / 6277101735386680763835789423207666416102355444464034512896 % 18446744073709551616 = a3 := by omega
  rw [e0, e1, e2, e3]

/-- Each word's value has four parts, and its number is theirs. -/
theorem wv_parts (x : Nat) : ∃ a0 a1 a2 a3 : Nat, a0 < 18446744073709551616 ∧ a1 < 18446744073709551616 ∧ a2 < 18446744073709551616 ∧ a3 < 18446744073709551616 ∧
    wv x = .agg #[.int .u64 a0, .int .u64 a1, .int .u64 a2, .int .u64 a3] ∧ n4 a0 a1 a2 a3 = x % 115792089237316195423570985008687907853269984665640564039457584007913129639936 :=
  ⟨_, _, _, _, by omega, by omega, by omega, by omega, rfl, by unfold n4; omega⟩

theorem wv_congr {x y : Nat} (h : x % 115792089237316195423570985008687907853269984665640564039457584007913129639936 = y % 115792089237316195423570985008687907853269984665640564039457584007913129639936) : wv x = wv y := by
  unfold wv
  have e0 : x % 18446744073709551616 = y % 18446744073709551616 := by omega
  have e1 : x / 18446744073709551616 % 18446744073709551616 = y / 18446744073709551616 % 18446744073709551616 := by omega
  have e2 : x / 340282366920938463463374607431768211456 % 18446744073709551616 = y / 340282366920938463463374607431768211456 % 18446744073709551616 := by omega
  have e3 : x / 6277101735386680763835789423207666416102355444464034512896 % 18446744073709551616 = y / 6277101735386680763835789423207666416102355444464034512896 % 18446744073709551616 := by omega
  rw [e0, e1, e2, e3]

theorem wv_inj {x y : Nat} (h : wv x = wv y) : x % 115792089237316195423570985008687907853269984665640564039457584007913129639936 = y % 115792089237316195423570985008687907853269984665640564039457584007913129639936 := by
  simp only [wv, Value.agg.injEq, Array.mk.injEq, List.cons.injEq, Value.int.injEq, true_and, and_true] at h
  obtain ⟨h0, h1, h2, h3⟩ := h
  omega

theorem n4_lt {a0 a1 a2 a3 : Nat} (h0 : a0 < 18446744073709551616) (h1 : a1 < 18446744073709551616) (h2 : a2 < 18446744073709551616) (h3 : a3 < 18446744073709551616) :
    n4 a0 a1 a2 a3 < 115792089237316195423570985008687907853269984665640564039457584007913129639936 := by unfold n4; omega

/-- Behind a call that wrote nothing that was there (W: the world that it was called in; w: the one in which the caller began): four elder cells that held noughts hold noughts, and may be written. -/
theorem after4 {w W w1 : World} {B : Nat} (b : Nat) (hb : Below W.heap.size W w1) (h0 : Below B w W) (hB0 : B ≤ W.heap.size) (hB : b < W.heap.size)
    (c0 : W.cell? ⟨b, 0, none⟩ = some (.int .u64 0)) (c1 : W.cell? ⟨b, 1, none⟩ = some (.int .u64 0)) (c2 : W.cell? ⟨b, 2, none⟩ = some (.int .u64 0)) (c3 : W.cell? ⟨b, 3, none⟩ = some (.int .u64 0))
    (f0 : W.frozen? ⟨b, 0, none⟩ = false) (f1 : W.frozen? ⟨b, 1, none⟩ = false) (f2 : W.frozen? ⟨b, 2, none⟩ = false) (f3 : W.frozen? ⟨b, 3, none⟩ = false) :
    (w1.cell? ⟨b, 0, none⟩ = some (.int .u64 0) ∧ w1.cell? ⟨b, 1, none⟩ = some (.int .u64 0) ∧ w1.cell? ⟨b, 2, none⟩ = some (.int .u64 0) ∧ w1.cell? ⟨b, 3, none⟩ = some (.int .u64 0)) ∧
    (w1.frozen? ⟨b, 0, none⟩ = false ∧ w1.frozen? ⟨b, 1, none⟩ = false ∧ w1.frozen? ⟨b, 2, none⟩ = false ∧ w1.frozen? ⟨b, 3, none⟩ = false) ∧ b < w1.heap.size ∧ Below B w w1 :=
  ⟨⟨(hb.cell hB).trans c0, (hb.cell hB).trans c1, (hb.cell hB).trans c2, (hb.cell hB).trans c3⟩, ⟨(hb.frozen hB).trans f0, (hb.frozen hB).trans f1, (hb.frozen hB).trans f2, (hb.frozen hB).trans f3⟩, Nat.lt_of_lt_of_le hB hb.size, h0.trans (hb.mono hB0)⟩

/-- The same of one cell, whatever it holds. -/
theorem after1 {W w1 : World} {b i : Nat} {v : Value} (hb : Below W.heap.size W w1) (hB : b < W.heap.size) (c0 : W.cell? ⟨b, i, none⟩ = some v) (f0 : W.frozen? ⟨b, i, none⟩ = false) :
    w1.cell? ⟨b, i, none⟩ = some v ∧ w1.frozen? ⟨b, i, none⟩ = false ∧ b < w1.heap.size :=
  ⟨(hb.cell hB).trans c0, (hb.frozen hB).trans f0, Nat.lt_of_lt_of_le hB hb.size⟩
end Go.Proofs.YthfadinocadhaaaDoor

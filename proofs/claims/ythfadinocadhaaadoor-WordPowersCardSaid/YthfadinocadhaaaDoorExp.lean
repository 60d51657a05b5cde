/- What word.Exp and bailiwickref01.Exp come to, called with any words: powers by squares. -/
import Derived.Test.YthfadinocadhaaaDoorBitsW
import Derived.Test.YthfadinocadhaaaDoorSext
namespace Go.Proofs.YthfadinocadhaaaDoor
open Go.RowKit

theorem hfz4e (W : World) (o : Obj) {B : Nat} (h : Free4 B W) (hB : B < W.heap.size) : Free4 B (W.alloc o) :=
  ⟨(World.frozen?_alloc_old _ _ _ (Nat.ne_of_lt hB)).trans h.1, (World.frozen?_alloc_old _ _ _ (Nat.ne_of_lt hB)).trans h.2.1, (World.frozen?_alloc_old _ _ _ (Nat.ne_of_lt hB)).trans h.2.2.1, (World.frozen?_alloc_old _ _ _ (Nat.ne_of_lt hB)).trans h.2.2.2⟩

/-- The blocks of a call of Exp: the base, the exponent, the result, the power so far. -/
def ExB (w : World) (B : Nat) (a0 a1 a2 a3 b0 b1 b2 b3 p0 p1 p2 p3 : Nat) (wx : World) : Prop :=
  Below w.heap.size w wx ∧ B < wx.heap.size ∧ w.heap.size + 1 + 1 < B ∧ Holds4 (w.heap.size) (.int .u64 a0) (.int .u64 a1) (.int .u64 a2) (.int .u64 a3) wx ∧ Holds4 (w.heap.size + 1) (.int .u64 b0) (.int .u64 b1) (.int .u64 b2) (.int .u64 b3) wx ∧ Holds4 (B) (.int .u64 p0) (.int .u64 p1) (.int .u64 p2) (.int .u64 p3) wx ∧ Free4 B wx ∧ Holds4 ((w.heap.size + 1 + 1)) (.int .u64 0) (.int .u64 0) (.int .u64 0) (.int .u64 0) wx ∧ Free4 (w.heap.size + 1 + 1) wx
theorem ExB.below {w wx w' : World} {B a0 a1 a2 a3 b0 b1 b2 b3 p0 p1 p2 p3 : Nat} (h : ExB w B a0 a1 a2 a3 b0 b1 b2 b3 p0 p1 p2 p3 wx) (hb : Below wx.heap.size wx w') : ExB w B a0 a1 a2 a3 b0 b1 b2 b3 p0 p1 p2 p3 w' := by
  obtain ⟨h1, h2, h3, h4, h5, h6, h7, h8, h9⟩ := h
  exact ⟨h1.trans (hb.mono h1.size), Nat.lt_of_lt_of_le h2 hb.size, h3, h4.below hb (by omega), h5.below hb (by omega), h6.below hb h2, h7.below hb h2, h8.below hb (by omega), h9.below hb (by omega)⟩
theorem ExB.set {w wx : World} {B a0 a1 a2 a3 b0 b1 b2 b3 p0 p1 p2 p3 : Nat} (h : ExB w B a0 a1 a2 a3 b0 b1 b2 b3 p0 p1 p2 p3 wx) (q0 q1 q2 q3 : Nat) :
    ExB w B a0 a1 a2 a3 b0 b1 b2 b3 q0 q1 q2 q3 ((((wx.setCell ⟨B, 0, none⟩ (.int .u64 q0)).setCell ⟨B, 1, none⟩ (.int .u64 q1)).setCell ⟨B, 2, none⟩ (.int .u64 q2)).setCell ⟨B, 3, none⟩ (.int .u64 q3)) := by
  obtain ⟨h1, h2, h3, ⟨a0', a1', a2', a3'⟩, ⟨b0', b1', b2', b3'⟩, ⟨p0', p1', p2', p3'⟩, ⟨f0, f1, f2, f3⟩, ⟨z0, z1, z2, z3⟩, ⟨g0, g1, g2, g3⟩⟩ := h
  have n1 : w.heap.size ≠ B := by omega
  have n2 : w.heap.size + 1 ≠ B := by omega
  have n3 : w.heap.size + 1 + 1 ≠ B := by omega
  have far : ∀ (k i : Nat) (v : Value) (j : Nat) (u : Value) (W : World), k ≠ B → W.cell? ⟨k, i, none⟩ = some v → (W.setCell ⟨B, j, none⟩ u).cell? ⟨k, i, none⟩ = some v := fun k i v j u W hne hc =>
    (World.cell?_setCell_other _ _ _ _ (by intro e; injection e with e _; exact hne e.symm)).trans hc
  have far4 : ∀ (k i : Nat) (v : Value), k ≠ B → wx.cell? ⟨k, i, none⟩ = some v → ((((wx.setCell ⟨B, 0, none⟩ (.int .u64 q0)).setCell ⟨B, 1, none⟩ (.int .u64 q1)).setCell ⟨B, 2, none⟩ (.int .u64 q2)).setCell ⟨B, 3, none⟩ (.int .u64 q3)).cell? ⟨k, i, none⟩ = some v := fun k i v hne hc =>
    far _ _ _ _ _ _ hne (far _ _ _ _ _ _ hne (far _ _ _ _ _ _ hne (far _ _ _ _ _ _ hne hc)))
  refine ⟨by go_grown, by simpa using h2, h3, ⟨far4 _ _ _ n1 a0', far4 _ _ _ n1 a1', far4 _ _ _ n1 a2', far4 _ _ _ n1 a3'⟩, ⟨far4 _ _ _ n2 b0', far4 _ _ _ n2 b1', far4 _ _ _ n2 b2', far4 _ _ _ n2 b3'⟩, ⟨by go_cell, by go_cell, by go_cell, by go_cell⟩, ⟨?_, ?_, ?_, ?_⟩, ⟨far4 _ _ _ n3 z0, far4 _ _ _ n3 z1, far4 _ _ _ n3 z2, far4 _ _ _ n3 z3⟩, ?_, ?_, ?_, ?_⟩ <;> simp [World.frozen?_setCell, *]

-- WHAT Len COMES TO: enough bits.
theorem len_any (y : Nat) (w : World) : Calls Tryd.prog 45 #[wv y] w fun e w' => ∃ L : Nat, e = .returned (.int .i64 L) ∧ y % 115792089237316195423570985008687907853269984665640564039457584007913129639936 < 2 ^ L ∧ L ≤ 256 ∧ Below w.heap.size w w' := by
  obtain ⟨a0, a1, a2, a3, u0, u1, u2, u3, ea, na⟩ := wv_parts y
  rw [ea, ← na]
  have up : ∀ a : Nat, a < 18446744073709551616 → a ≠ 0 → a < 2 ^ Lib.bitLen a ∧ Lib.bitLen a ≤ 64 := fun a h h0 => by
    obtain ⟨-, h2, h3⟩ := bitLen_bounds a h h0
    refine ⟨h3, ?_⟩
    have h5 : ¬ 65 ≤ Lib.bitLen a := fun h => by
      have := Nat.pow_le_pow_right (n := 2) (by omega) (show 64 ≤ Lib.bitLen a - 1 by omega)
      omega
    omega
  by_cases h3 : a3 = 0
  · subst h3
    by_cases h2 : a2 = 0
    · subst h2
      by_cases h1 : a1 = 0
      · subst h1
        by_cases h0 : a0 = 0
        · subst h0
          exact (len_0 w).mono fun e w' ⟨he, hb⟩ => ⟨0, he, by decide, by omega, hb⟩
        · obtain ⟨l1, l2⟩ := up a0 u0 h0
          exact (len_1 a0 (by rw [bne_iff_ne]; omega) (by omega) w).mono fun e w' ⟨he, hb⟩ => ⟨Lib.bitLen a0, he, by unfold n4; omega, by omega, hb⟩
      · obtain ⟨l1, l2⟩ := up a1 u1 h1
        refine (len_2 a0 a1 (by rw [bne_iff_ne]; omega) (by omega) w).mono fun e w' ⟨he, hb⟩ => ⟨64 + Lib.bitLen a1, by rw [he]; simp, ?_, by omega, hb⟩
        rw [Nat.pow_add, show (2 : Nat) ^ 64 = 18446744073709551616 by rfl]; unfold n4; omega
    · obtain ⟨l1, l2⟩ := up a2 u2 h2
      refine (len_3 a0 a1 a2 (by rw [bne_iff_ne]; omega) (by omega) w).mono fun e w' ⟨he, hb⟩ => ⟨128 + Lib.bitLen a2, by rw [he]; simp, ?_, by omega, hb⟩
      rw [Nat.pow_add, show (2 : Nat) ^ 128 = 340282366920938463463374607431768211456 by rfl]; unfold n4; omega
  · obtain ⟨l1, l2⟩ := up a3 u3 h3
    refine (len_4 a0 a1 a2 a3 (by rw [bne_iff_ne]; omega) (by omega) w).mono fun e w' ⟨he, hb⟩ => ⟨192 + Lib.bitLen a3, by rw [he]; simp, ?_, by omega, hb⟩
    rw [Nat.pow_add, show (2 : Nat) ^ 192 = 6277101735386680763835789423207666416102355444464034512896 by rfl]; unfold n4; omega

set_option maxRecDepth 100000 in
set_option maxHeartbeats 4000000 in
-- WHAT word.Exp COMES TO.
theorem exp_any (x y : Nat) (w : World) : Calls Tryd.prog 20 #[wv x, wv y] w fun e w' => e = .returned (wv (x ^ (y % 115792089237316195423570985008687907853269984665640564039457584007913129639936))) ∧ Below w.heap.size w w' := by
  obtain ⟨a0, a1, a2, a3, -, -, -, -, ea, -⟩ := wv_parts x
  obtain ⟨b0, b1, b2, b3, -, -, -, -, eb, -⟩ := wv_parts y
  have hB := fun (i : Nat) (hi : i < 256) (w : World) => hasBit_any y i hi w
  have hL := len_any y
  have hO := fun w => of_walk 1 w
  rw [ea, eb]
  rw [eb] at hB hL
  have HB := Lib.hid hB; clear hB
  have EA := Lib.hid ea; clear ea
  have EB := Lib.hid eb; clear eb
  go_enter Tryd.func20, Tryd.ntmps20
  go_wp2_with fail
  refine (hO _).mono ?_
  rintro e w1 ⟨rfl, hb⟩
  have hz1 : w.heap.size + 1 + 1 < w1.heap.size := by have h := hb.size; simp at h; omega
  have hcl : ExB w w1.heap.size a0 a1 a2 a3 b0 b1 b2 b3 1 0 0 0 (w1.alloc (.cells #[.int .u64 1, .int .u64 0, .int .u64 0, .int .u64 0] 24)) := by
    have cc : ∀ (k i : Nat) (v : Value), k < w.heap.size + 1 + 1 + 1 → (((w.alloc (.cells #[.int .u64 a0, .int .u64 a1, .int .u64 a2, .int .u64 a3] 24)).alloc (.cells #[.int .u64 b0, .int .u64 b1, .int .u64 b2, .int .u64 b3] 24)).alloc (.cells #[.int .u64 0, .int .u64 0, .int .u64 0, .int .u64 0] 24)).cell? ⟨k, i, none⟩ = some v → (w1.alloc (.cells #[.int .u64 1, .int .u64 0, .int .u64 0, .int .u64 0] 24)).cell? ⟨k, i, none⟩ = some v := fun k i v hk hc =>
      (World.cell?_alloc_old _ _ _ (by show k ≠ w1.heap.size; omega)).trans ((hb.cell (p := ⟨k, i, none⟩) (by simp; omega)).trans hc)
    have ff : ∀ (k i : Nat), k < w.heap.size + 1 + 1 + 1 → (((w.alloc (.cells #[.int .u64 a0, .int .u64 a1, .int .u64 a2, .int .u64 a3] 24)).alloc (.cells #[.int .u64 b0, .int .u64 b1, .int .u64 b2, .int .u64 b3] 24)).alloc (.cells #[.int .u64 0, .int .u64 0, .int .u64 0, .int .u64 0] 24)).frozen? ⟨k, i, none⟩ = false → (w1.alloc (.cells #[.int .u64 1, .int .u64 0, .int .u64 0, .int .u64 0] 24)).frozen? ⟨k, i, none⟩ = false := fun k i hk hc =>
      (World.frozen?_alloc_old _ _ _ (by show k ≠ w1.heap.size; omega)).trans ((hb.frozen (p := ⟨k, i, none⟩) (by simp; omega)).trans hc)
    have hB1 : Below w.heap.size w w1 := Below.trans (by go_grown) (hb.mono (by simp; omega))
    exact ⟨by go_grown, by simp, hz1, ⟨cc _ _ _ (by omega) (by go_cell), cc _ _ _ (by omega) (by go_cell), cc _ _ _ (by omega) (by go_cell), cc _ _ _ (by omega) (by go_cell)⟩, ⟨cc _ _ _ (by omega) (by go_cell), cc _ _ _ (by omega) (by go_cell), cc _ _ _ (by omega) (by go_cell), cc _ _ _ (by omega) (by go_cell)⟩, ⟨by go_cell, by go_cell, by go_cell, by go_cell⟩, ⟨by go_cell, by go_cell, by go_cell, by go_cell⟩, ⟨cc _ _ _ (by omega) (by go_cell), cc _ _ _ (by omega) (by go_cell), cc _ _ _ (by omega) (by go_cell), cc _ _ _ (by omega) (by go_cell)⟩, ff _ _ (by omega) (by go_cell), ff _ _ (by omega) (by go_cell), ff _ _ (by omega) (by go_cell), ff _ _ (by omega) (by go_cell)⟩
  have HCL := Lib.hid hcl; clear hcl
  obtain ⟨hBw, hBs, -, -, ⟨y0, y1, y2, y3⟩, -⟩ := HCL.out
  have Z1 := Lib.hid hz1
  clear hb
  go_wp2_with fail
  refine (hL _).mono ?_
  rintro e w2 ⟨L, rfl, hyL, hL2, hb⟩
  have HC2 := Lib.hid (HCL.out.below hb)
  clear hb HCL y0 y1 y2 y3 hBw hBs hz1 hL hO
  have HYL := Lib.hid hyL; clear hyL
  have hL0 : (0 : Int) ≤ L := by omega
  have hL1 : (L : Int) ≤ 256 := by omega
  go_wp2
  go_loopw [6] (fun iv wr => ∃ k : Nat, k ≤ L ∧ iv = .int .i64 ((k : Int) - 1) ∧ Hid (∃ p0 p1 p2 p3 : Nat, wv (x ^ (y % 115792089237316195423570985008687907853269984665640564039457584007913129639936 / 2 ^ k)) = .agg #[.int .u64 p0, .int .u64 p1, .int .u64 p2, .int .u64 p3] ∧ ExB w w1.heap.size a0 a1 a2 a3 b0 b1 b2 b3 p0 p1 p2 p3 wr)) (fun iv _ => (intOf iv + 1).toNat)
  case atStart => exact ⟨L, Nat.le_refl _, rfl, Lib.hid ⟨1, 0, 0, 0, by rw [Nat.div_eq_of_lt HYL.out, Nat.pow_zero]; exact wv_small (by omega), HC2.out⟩⟩
  case round =>
    obtain ⟨k, hk, rfl, H⟩ := hrel
    obtain ⟨p0, p1, p2, p3, ep, hC⟩ := H.out
    clear H
    have HC := Lib.hid hC; clear hC
    have hk1 : (k : Int) ≤ 256 := by omega
    rcases k with _ | i
    · rw [Nat.pow_zero, Nat.div_one] at ep
      have EP := Lib.hid ep; clear ep
      obtain ⟨hBw, hBs, -, ⟨x0, x1, x2, x3⟩, ⟨y0, y1, y2, y3⟩, ⟨q0, q1, q2, q3⟩, ⟨f0, f1, f2, f3⟩, ⟨z0, z1, z2, z3⟩, ⟨g0, g1, g2, g3⟩⟩ := HC.out
      have hSz : w.heap.size + 1 + 1 < wr.heap.size := by have := HC.out.2.2.1; omega
      have hSB : w1.heap.size ≠ w.heap.size + 1 + 1 := by have := HC.out.2.2.1; omega
      go_wp2
      refine bodyPost_ret (v := .agg #[.int .u64 p0, .int .u64 p1, .int .u64 p2, .int .u64 p3]) (by simp [results, Tryd.results20, go_sem, z0, z1, z2, z3]; try rfl) rfl ⟨by rw [EP.out], ?_⟩
      go_grown
    · have e1 : ((i + 1 : Nat) : Int) - 1 = (i : Int) := by omega
      rw [e1]
      clear e1
      have hi0 : (0 : Int) ≤ i := by omega
      have hi1 : (i : Int) < 256 := by omega
      have hsq : y % 115792089237316195423570985008687907853269984665640564039457584007913129639936 / 2 ^ i = (y % 115792089237316195423570985008687907853269984665640564039457584007913129639936 / 2 ^ (i + 1)) + (y % 115792089237316195423570985008687907853269984665640564039457584007913129639936 / 2 ^ (i + 1)) + y % 115792089237316195423570985008687907853269984665640564039457584007913129639936 / 2 ^ i % 2 := by
        rw [Nat.pow_succ, ← Nat.div_div_eq_div_mul]; omega
      obtain ⟨r0, r1, r2, r3, -, -, -, -, er, -⟩ := wv_parts (x ^ (y % 115792089237316195423570985008687907853269984665640564039457584007913129639936 / 2 ^ (i + 1)) * x ^ (y % 115792089237316195423570985008687907853269984665640564039457584007913129639936 / 2 ^ (i + 1)))
      have hM1 : ∀ w, Calls Tryd.prog 17 #[.agg #[.int .u64 p0, .int .u64 p1, .int .u64 p2, .int .u64 p3], .agg #[.int .u64 p0, .int .u64 p1, .int .u64 p2, .int .u64 p3]] w fun e w' => e = .returned (.agg #[.int .u64 r0, .int .u64 r1, .int .u64 r2, .int .u64 r3]) ∧ Below w.heap.size w w' := fun w => by rw [← ep, ← er]; exact mul_any _ _ w
      have ER := Lib.hid er; clear er
      have EP := Lib.hid ep; clear ep
      have HM1 := Lib.hid hM1; clear hM1
      have HSQ := Lib.hid hsq; clear hsq
      obtain ⟨hBw, hBs, -, ⟨x0, x1, x2, x3⟩, ⟨y0, y1, y2, y3⟩, ⟨q0, q1, q2, q3⟩, ⟨f0, f1, f2, f3⟩, ⟨z0, z1, z2, z3⟩, ⟨g0, g1, g2, g3⟩⟩ := HC.out
      go_wp2_with fail
      refine (HM1.out _).mono ?_
      rintro e w3 ⟨rfl, hb⟩
      clear x0 x1 x2 x3 y0 y1 y2 y3 q0 q1 q2 q3 f0 f1 f2 f3 z0 z1 z2 z3 g0 g1 g2 g3 hBw hBs
      have HC3 := Lib.hid (HC.out.below hb)
      have HC4 := Lib.hid (HC3.out.set r0 r1 r2 r3)
      clear hb HC
      obtain ⟨hBw, hBs, -, ⟨x0, x1, x2, x3⟩, ⟨y0, y1, y2, y3⟩, ⟨q0, q1, q2, q3⟩, ⟨f0, f1, f2, f3⟩, ⟨z0, z1, z2, z3⟩, ⟨g0, g1, g2, g3⟩⟩ := HC3.out
      have hBn : w1.heap.size ≠ w.heap.size + 1 := by have := HC3.out.2.2.1; omega
      have hBn2 : w1.heap.size ≠ w.heap.size := by have := HC3.out.2.2.1; omega
      go_wp2_with fail
      refine (HB.out i (by omega) _).mono ?_
      rintro e w4 ⟨rfl, hb⟩
      clear x0 x1 x2 x3 y0 y1 y2 y3 q0 q1 q2 q3 f0 f1 f2 f3 z0 z1 z2 z3 g0 g1 g2 g3 hBw hBs
      have HC5 := Lib.hid (HC4.out.below hb)
      clear hb HC3 HC4
      by_cases hbit : y % 115792089237316195423570985008687907853269984665640564039457584007913129639936 / 2 ^ i % 2 = 1
      · rw [decide_eq_true hbit]
        obtain ⟨t0, t1, t2, t3, -, -, -, -, et, -⟩ := wv_parts (x ^ (y % 115792089237316195423570985008687907853269984665640564039457584007913129639936 / 2 ^ (i + 1)) * x ^ (y % 115792089237316195423570985008687907853269984665640564039457584007913129639936 / 2 ^ (i + 1)) * x)
        have hM2 : ∀ w, Calls Tryd.prog 17 #[.agg #[.int .u64 r0, .int .u64 r1, .int .u64 r2, .int .u64 r3], .agg #[.int .u64 a0, .int .u64 a1, .int .u64 a2, .int .u64 a3]] w fun e w' => e = .returned (.agg #[.int .u64 t0, .int .u64 t1, .int .u64 t2, .int .u64 t3]) ∧ Below w.heap.size w w' := fun w => by rw [← ER.out, ← EA.out, ← et]; exact mul_any _ _ w
        have ET : Hid (wv (x ^ (y % 115792089237316195423570985008687907853269984665640564039457584007913129639936 / 2 ^ i)) = .agg #[.int .u64 t0, .int .u64 t1, .int .u64 t2, .int .u64 t3]) := Lib.hid (by rw [HSQ.out, hbit, Nat.pow_succ, Nat.pow_add]; exact et)
        have HM2 := Lib.hid hM2; clear hM2 et hbit
        obtain ⟨hBw, hBs, -, ⟨x0, x1, x2, x3⟩, ⟨y0, y1, y2, y3⟩, ⟨q0, q1, q2, q3⟩, ⟨f0, f1, f2, f3⟩, ⟨z0, z1, z2, z3⟩, ⟨g0, g1, g2, g3⟩⟩ := HC5.out
        go_wp2_with fail
        refine (HM2.out _).mono ?_
        rintro e w5 ⟨rfl, hb⟩
        clear x0 x1 x2 x3 y0 y1 y2 y3 q0 q1 q2 q3 f0 f1 f2 f3 z0 z1 z2 z3 g0 g1 g2 g3 hBw hBs
        have HC6 := Lib.hid (HC5.out.below hb)
        have HC7 := Lib.hid (HC6.out.set t0 t1 t2 t3)
        clear hb HC5
        obtain ⟨hBw, hBs, -, ⟨x0, x1, x2, x3⟩, ⟨y0, y1, y2, y3⟩, ⟨q0, q1, q2, q3⟩, ⟨f0, f1, f2, f3⟩, ⟨z0, z1, z2, z3⟩, ⟨g0, g1, g2, g3⟩⟩ := HC6.out
        go_wp2
        go_roundw
        case rel => exact ⟨i, by omega, rfl, Lib.hid ⟨t0, t1, t2, t3, ET.out, HC7.out⟩⟩
        case measure => simp [intOf]
      · have hbit0 : y % 115792089237316195423570985008687907853269984665640564039457584007913129639936 / 2 ^ i % 2 = 0 := by omega
        rw [decide_eq_false hbit]
        have ET : Hid (wv (x ^ (y % 115792089237316195423570985008687907853269984665640564039457584007913129639936 / 2 ^ i)) = .agg #[.int .u64 r0, .int .u64 r1, .int .u64 r2, .int .u64 r3]) := Lib.hid (by rw [HSQ.out, hbit0, Nat.add_zero, Nat.pow_add]; exact ER.out)
        clear hbit hbit0
        go_wp2
        go_roundw
        case rel => exact ⟨i, by omega, rfl, Lib.hid ⟨r0, r1, r2, r3, ET.out, HC5.out⟩⟩
        case measure => simp [intOf]

set_option maxRecDepth 100000 in
set_option maxHeartbeats 4000000 in
-- WHAT ref01.Exp COMES TO.
theorem expr_any (x y : Nat) (w : World) : Calls Tryd.prog 21 #[wv x, wv y] w fun e w' => e = .returned (wv (x ^ (y % 115792089237316195423570985008687907853269984665640564039457584007913129639936))) ∧ Below w.heap.size w w' := by
  obtain ⟨a0, a1, a2, a3, -, -, -, -, ea, -⟩ := wv_parts x
  obtain ⟨b0, b1, b2, b3, -, -, -, -, eb, -⟩ := wv_parts y
  have hB := fun (i : Nat) (hi : i < 256) (w : World) => bit_ref y i hi w
  rw [ea, eb]
  rw [eb] at hB
  have HB := Lib.hid hB; clear hB
  have EA := Lib.hid ea; clear ea
  have EB := Lib.hid eb; clear eb
  go_enter Tryd.func21, Tryd.ntmps21
  go_wp2
  have HC2 : Hid (ExB w (w.heap.size + 1 + 1 + 1) a0 a1 a2 a3 b0 b1 b2 b3 1 0 0 0 ((((w.alloc (.cells #[.int .u64 a0, .int .u64 a1, .int .u64 a2, .int .u64 a3] 24)).alloc (.cells #[.int .u64 b0, .int .u64 b1, .int .u64 b2, .int .u64 b3] 24)).alloc (.cells #[.int .u64 0, .int .u64 0, .int .u64 0, .int .u64 0] 24)).alloc (.cells #[.int .u64 1, .int .u64 0, .int .u64 0, .int .u64 0] 24))) := Lib.hid ⟨by go_grown, by simp, by omega, ⟨by go_cell, by go_cell, by go_cell, by go_cell⟩, ⟨by go_cell, by go_cell, by go_cell, by go_cell⟩, ⟨by go_cell, by go_cell, by go_cell, by go_cell⟩, ⟨by go_cell, by go_cell, by go_cell, by go_cell⟩, ⟨by go_cell, by go_cell, by go_cell, by go_cell⟩, by go_cell, by go_cell, by go_cell, by go_cell⟩
  go_loopw [6] (fun iv wr => ∃ k : Nat, k ≤ 256 ∧ iv = .int .i64 ((k : Int) - 1) ∧ Hid (∃ p0 p1 p2 p3 : Nat, wv (x ^ (y % 115792089237316195423570985008687907853269984665640564039457584007913129639936 / 2 ^ k)) = .agg #[.int .u64 p0, .int .u64 p1, .int .u64 p2, .int .u64 p3] ∧ ExB w (w.heap.size + 1 + 1 + 1) a0 a1 a2 a3 b0 b1 b2 b3 p0 p1 p2 p3 wr)) (fun iv _ => (intOf iv + 1).toNat)
  case atStart => exact ⟨256, Nat.le_refl _, rfl, Lib.hid ⟨1, 0, 0, 0, by rw [show (2 : Nat) ^ 256 = 115792089237316195423570985008687907853269984665640564039457584007913129639936 by rfl, Nat.div_eq_of_lt (Nat.mod_lt _ (by omega)), Nat.pow_zero]; exact wv_small (by omega), HC2.out⟩⟩
  case round =>
    obtain ⟨k, hk, rfl, H⟩ := hrel
    obtain ⟨p0, p1, p2, p3, ep, hC⟩ := H.out
    clear H
    have HC := Lib.hid hC; clear hC
    have hk1 : (k : Int) ≤ 256 := by omega
    rcases k with _ | i
    · rw [Nat.pow_zero, Nat.div_one] at ep
      have EP := Lib.hid ep; clear ep
      obtain ⟨hBw, hBs, -, ⟨x0, x1, x2, x3⟩, ⟨y0, y1, y2, y3⟩, ⟨q0, q1, q2, q3⟩, ⟨f0, f1, f2, f3⟩, ⟨z0, z1, z2, z3⟩, ⟨g0, g1, g2, g3⟩⟩ := HC.out
      have hSz : w.heap.size + 1 + 1 < wr.heap.size := by have := HC.out.2.2.1; omega
      have hSB : (w.heap.size + 1 + 1 + 1) ≠ w.heap.size + 1 + 1 := by have := HC.out.2.2.1; omega
      go_wp2
      refine bodyPost_ret (v := .agg #[.int .u64 p0, .int .u64 p1, .int .u64 p2, .int .u64 p3]) (by simp [results, Tryd.results21, go_sem, z0, z1, z2, z3]; try rfl) rfl ⟨by rw [EP.out], ?_⟩
      go_grown
    · have e1 : ((i + 1 : Nat) : Int) - 1 = (i : Int) := by omega
      rw [e1]
      clear e1
      have hi0 : (0 : Int) ≤ i := by omega
      have hi1 : (i : Int) < 256 := by omega
      have hsq : y % 115792089237316195423570985008687907853269984665640564039457584007913129639936 / 2 ^ i = (y % 115792089237316195423570985008687907853269984665640564039457584007913129639936 / 2 ^ (i + 1)) + (y % 115792089237316195423570985008687907853269984665640564039457584007913129639936 / 2 ^ (i + 1)) + y % 115792089237316195423570985008687907853269984665640564039457584007913129639936 / 2 ^ i % 2 := by
        rw [Nat.pow_succ, ← Nat.div_div_eq_div_mul]; omega
      obtain ⟨r0, r1, r2, r3, -, -, -, -, er, -⟩ := wv_parts (x ^ (y % 115792089237316195423570985008687907853269984665640564039457584007913129639936 / 2 ^ (i + 1)) * x ^ (y % 115792089237316195423570985008687907853269984665640564039457584007913129639936 / 2 ^ (i + 1)))
      have hM1 : ∀ w, Calls Tryd.prog 18 #[.agg #[.int .u64 p0, .int .u64 p1, .int .u64 p2, .int .u64 p3], .agg #[.int .u64 p0, .int .u64 p1, .int .u64 p2, .int .u64 p3]] w fun e w' => e = .returned (.agg #[.int .u64 r0, .int .u64 r1, .int .u64 r2, .int .u64 r3]) ∧ Below w.heap.size w w' := fun w => by rw [← ep, ← er]; exact mul_ref _ _ w
      have ER := Lib.hid er; clear er
      have EP := Lib.hid ep; clear ep
      have HM1 := Lib.hid hM1; clear hM1
      have HSQ := Lib.hid hsq; clear hsq
      obtain ⟨hBw, hBs, -, ⟨x0, x1, x2, x3⟩, ⟨y0, y1, y2, y3⟩, ⟨q0, q1, q2, q3⟩, ⟨f0, f1, f2, f3⟩, ⟨z0, z1, z2, z3⟩, ⟨g0, g1, g2, g3⟩⟩ := HC.out
      go_wp2_with fail
      refine (HM1.out _).mono ?_
      rintro e w3 ⟨rfl, hb⟩
      clear x0 x1 x2 x3 y0 y1 y2 y3 q0 q1 q2 q3 f0 f1 f2 f3 z0 z1 z2 z3 g0 g1 g2 g3 hBw hBs
      have HC3 := Lib.hid (HC.out.below hb)
      have HC4 := Lib.hid (HC3.out.set r0 r1 r2 r3)
      clear hb HC
      obtain ⟨hBw, hBs, -, ⟨x0, x1, x2, x3⟩, ⟨y0, y1, y2, y3⟩, ⟨q0, q1, q2, q3⟩, ⟨f0, f1, f2, f3⟩, ⟨z0, z1, z2, z3⟩, ⟨g0, g1, g2, g3⟩⟩ := HC3.out
      have hBn : (w.heap.size + 1 + 1 + 1) ≠ w.heap.size + 1 := by have := HC3.out.2.2.1; omega
      have hBn2 : (w.heap.size + 1 + 1 + 1) ≠ w.heap.size := by have := HC3.out.2.2.1; omega
      go_wp2_with fail
      refine (HB.out i (by omega) _).mono ?_
      rintro e w4 ⟨rfl, hb⟩
      clear x0 x1 x2 x3 y0 y1 y2 y3 q0 q1 q2 q3 f0 f1 f2 f3 z0 z1 z2 z3 g0 g1 g2 g3 hBw hBs
      have HC5 := Lib.hid (HC4.out.below hb)
      clear hb HC3 HC4
      by_cases hbit : y % 115792089237316195423570985008687907853269984665640564039457584007913129639936 / 2 ^ i % 2 = 1
      · rw [hbit]
        obtain ⟨t0, t1, t2, t3, -, -, -, -, et, -⟩ := wv_parts (x ^ (y % 115792089237316195423570985008687907853269984665640564039457584007913129639936 / 2 ^ (i + 1)) * x ^ (y % 115792089237316195423570985008687907853269984665640564039457584007913129639936 / 2 ^ (i + 1)) * x)
        have hM2 : ∀ w, Calls Tryd.prog 18 #[.agg #[.int .u64 r0, .int .u64 r1, .int .u64 r2, .int .u64 r3], .agg #[.int .u64 a0, .int .u64 a1, .int .u64 a2, .int .u64 a3]] w fun e w' => e = .returned (.agg #[.int .u64 t0, .int .u64 t1, .int .u64 t2, .int .u64 t3]) ∧ Below w.heap.size w w' := fun w => by rw [← ER.out, ← EA.out, ← et]; exact mul_ref _ _ w
        have ET : Hid (wv (x ^ (y % 115792089237316195423570985008687907853269984665640564039457584007913129639936 / 2 ^ i)) = .agg #[.int .u64 t0, .int .u64 t1, .int .u64 t2, .int .u64 t3]) := Lib.hid (by rw [HSQ.out, hbit, Nat.pow_succ, Nat.pow_add]; exact et)
        have HM2 := Lib.hid hM2; clear hM2 et hbit
        obtain ⟨hBw, hBs, -, ⟨x0, x1, x2, x3⟩, ⟨y0, y1, y2, y3⟩, ⟨q0, q1, q2, q3⟩, ⟨f0, f1, f2, f3⟩, ⟨z0, z1, z2, z3⟩, ⟨g0, g1, g2, g3⟩⟩ := HC5.out
        go_wp2_with fail
        refine (HM2.out _).mono ?_
        rintro e w5 ⟨rfl, hb⟩
        clear x0 x1 x2 x3 y0 y1 y2 y3 q0 q1 q2 q3 f0 f1 f2 f3 z0 z1 z2 z3 g0 g1 g2 g3 hBw hBs
        have HC6 := Lib.hid (HC5.out.below hb)
        have HC7 := Lib.hid (HC6.out.set t0 t1 t2 t3)
        clear hb HC5
        obtain ⟨hBw, hBs, -, ⟨x0, x1, x2, x3⟩, ⟨y0, y1, y2, y3⟩, ⟨q0, q1, q2, q3⟩, ⟨f0, f1, f2, f3⟩, ⟨z0, z1, z2, z3⟩, ⟨g0, g1, g2, g3⟩⟩ := HC6.out
        go_wp2
        go_roundw
        case rel => exact ⟨i, by omega, rfl, Lib.hid ⟨t0, t1, t2, t3, ET.out, HC7.out⟩⟩
        case measure => simp [intOf]
      · have hbit0 : y % 115792089237316195423570985008687907853269984665640564039457584007913129639936 / 2 ^ i % 2 = 0 := by omega
        rw [hbit0]
        have ET : Hid (wv (x ^ (y % 115792089237316195423570985008687907853269984665640564039457584007913129639936 / 2 ^ i)) = .agg #[.int .u64 r0, .int .u64 r1, .int .u64 r2, .int .u64 r3]) := Lib.hid (by rw [HSQ.out, hbit0, Nat.add_zero, Nat.pow_add]; exact ER.out)
        clear hbit hbit0
        go_wp2
        go_roundw
        case rel => exact ⟨i, by omega, rfl, Lib.hid ⟨r0, r1, r2, r3, ET.out, HC5.out⟩⟩
        case measure => simp [intOf]
end Go.Proofs.YthfadinocadhaaaDoor

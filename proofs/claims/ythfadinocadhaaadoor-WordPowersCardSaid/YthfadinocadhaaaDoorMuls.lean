/- What word.product, word.narrow, word.Mul and word.Of come to, called with any words in any world. -/
import Derived.Test.YthfadinocadhaaaDoorProduct
import Derived.Test.YthfadinocadhaaaDoorWide
namespace Go.Proofs.YthfadinocadhaaaDoor
open Go.RowKit

set_option maxHeartbeats 400000 in
theorem of_walk (n : Nat) (w : World) :
    Calls Tryd.prog 57 #[.int .u64 n] w fun e w' => e = .returned (.agg #[.int .u64 n, .int .u64 0, .int .u64 0, .int .u64 0]) ∧ Below w.heap.size w w' := by
  go_enter Tryd.func57, Tryd.ntmps57
  go_wp2
  go_returns
  exact ⟨rfl, by go_grown⟩

/-- The array that a slice of four parts lies over. -/
theorem arrayAt4 (b o c : Nat) (w : World) : (Instr.arrayAt 24 (.slice (some ⟨b, o, none⟩) 4 c)).run Tryd.prog w = .ok (.pointer (some ⟨b, o, none⟩)) w := by kernel_rfl

set_option maxRecDepth 100000 in
set_option maxHeartbeats 400000 in
theorem narrow_walk (a0 a1 a2 a3 a4 a5 a6 a7 : Nat) (w : World) :
    Calls Tryd.prog 66 #[.agg #[.int .u64 a0, .int .u64 a1, .int .u64 a2, .int .u64 a3, .int .u64 a4, .int .u64 a5, .int .u64 a6, .int .u64 a7]] w fun e w' => e = .returned (.agg #[.int .u64 a0, .int .u64 a1, .int .u64 a2, .int .u64 a3]) ∧ Below w.heap.size w w' := by
  have hat := arrayAt4
  go_enter Tryd.func66, Tryd.ntmps66
  go_wp2
  go_returns
  exact ⟨rfl, by go_grown⟩
-- WHAT product COMES TO.
set_option maxHeartbeats 4000000 in
theorem product_any (x y : Nat) (w : World) :
    Calls Tryd.prog 67 #[wv x, wv y] w fun e w' =>
      e = .returned (dv ((x % 115792089237316195423570985008687907853269984665640564039457584007913129639936) * (y % 115792089237316195423570985008687907853269984665640564039457584007913129639936))) ∧ Below w.heap.size w w' := by
  obtain ⟨a0, a1, a2, a3, u0, u1, u2, u3, ea, na⟩ := wv_parts x
  obtain ⟨b0, b1, b2, b3, v0, v1, v2, v3, eb, nb⟩ := wv_parts y
  obtain ⟨p00, c00, lp00, lc00, e00, h00⟩ := mulAdd_ex a0 b0 0 0 u0 v0 (by omega) (by omega)
  obtain ⟨p01, c01, lp01, lc01, e01, h01⟩ := mulAdd_ex a0 b1 0 c00 u0 v1 (by omega) lc00
  obtain ⟨p02, c02, lp02, lc02, e02, h02⟩ := mulAdd_ex a0 b2 0 c01 u0 v2 (by omega) lc01
  obtain ⟨p03, c03, lp03, lc03, e03, h03⟩ := mulAdd_ex a0 b3 0 c02 u0 v3 (by omega) lc02
  obtain ⟨p10, c10, lp10, lc10, e10, h10⟩ := mulAdd_ex a1 b0 p01 0 u1 v0 lp01 (by omega)
  obtain ⟨p11, c11, lp11, lc11, e11, h11⟩ := mulAdd_ex a1 b1 p02 c10 u1 v1 lp02 lc10
  obtain ⟨p12, c12, lp12, lc12, e12, h12⟩ := mulAdd_ex a1 b2 p03 c11 u1 v2 lp03 lc11
  obtain ⟨p13, c13, lp13, lc13, e13, h13⟩ := mulAdd_ex a1 b3 c03 c12 u1 v3 lc03 lc12
  obtain ⟨p20, c20, lp20, lc20, e20, h20⟩ := mulAdd_ex a2 b0 p11 0 u2 v0 lp11 (by omega)
  obtain ⟨p21, c21, lp21, lc21, e21, h21⟩ := mulAdd_ex a2 b1 p12 c20 u2 v1 lp12 lc20
  obtain ⟨p22, c22, lp22, lc22, e22, h22⟩ := mulAdd_ex a2 b2 p13 c21 u2 v2 lp13 lc21
  obtain ⟨p23, c23, lp23, lc23, e23, h23⟩ := mulAdd_ex a2 b3 c13 c22 u2 v3 lc13 lc22
  obtain ⟨p30, c30, lp30, lc30, e30, h30⟩ := mulAdd_ex a3 b0 p21 0 u3 v0 lp21 (by omega)
  obtain ⟨p31, c31, lp31, lc31, e31, h31⟩ := mulAdd_ex a3 b1 p22 c30 u3 v1 lp22 lc30
  obtain ⟨p32, c32, lp32, lc32, e32, h32⟩ := mulAdd_ex a3 b2 p23 c31 u3 v2 lp23 lc31
  obtain ⟨p33, c33, lp33, lc33, e33, h33⟩ := mulAdd_ex a3 b3 c23 c32 u3 v3 lc23 lc32
  have hs : n8 p00 p10 p20 p30 p31 p32 p33 c33 = (x % 115792089237316195423570985008687907853269984665640564039457584007913129639936) * (y % 115792089237316195423570985008687907853269984665640564039457584007913129639936) := by
    rw [← na, ← nb, n4_mul]
    clear ea eb na nb h00 h01 h02 h03 h10 h11 h12 h13 h20 h21 h22 h23 h30 h31 h32 h33
    generalize a0 * b0 = m00 at *
    generalize a0 * b1 = m01 at *
    generalize a0 * b2 = m02 at *
    generalize a0 * b3 = m03 at *
    generalize a1 * b0 = m10 at *
    generalize a1 * b1 = m11 at *
    generalize a1 * b2 = m12 at *
    generalize a1 * b3 = m13 at *
    generalize a2 * b0 = m20 at *
    generalize a2 * b1 = m21 at *
    generalize a2 * b2 = m22 at *
    generalize a2 * b3 = m23 at *
    generalize a3 * b0 = m30 at *
    generalize a3 * b1 = m31 at *
    generalize a3 * b2 = m32 at *
    generalize a3 * b3 = m33 at *
    clear u0 u1 u2 u3 v0 v1 v2 v3 lp00 lc00 lp01 lc01 lp02 lc02 lp03 lc03 lp10 lc10 lp11 lc11 lp12 lc12 lp13 lc13 lp20 lc20 lp21 lc21 lp22 lc22 lp23 lc23 lp30 lc30 lp31 lc31 lp32 lc32 lp33 lc33
    unfold n8
    omega
  rw [ea, eb, ← hs, dv_n8 lp00 lp10 lp20 lp30 lp31 lp32 lp33 lc33]
  exact product_walk a0 a1 a2 a3 b0 b1 b2 b3 p00 c00 p01 c01 p02 c02 p03 c03 p10 c10 p11 c11 p12 c12 p13 c13 p20 c20 p21 c21 p22 c22 p23 c23 p30 c30 p31 c31 p32 c32 p33 c33 w h00 h01 h02 h03 h10 h11 h12 h13 h20 h21 h22 h23 h30 h31 h32 h33

set_option maxRecDepth 100000 in
set_option maxHeartbeats 1000000 in
theorem mul_walk (a0 a1 a2 a3 b0 b1 b2 b3 p0 p1 p2 p3 p4 p5 p6 p7 : Nat) (w : World)
    (hP : ∀ w, Calls Tryd.prog 67 #[.agg #[.int .u64 a0, .int .u64 a1, .int .u64 a2, .int .u64 a3], .agg #[.int .u64 b0, .int .u64 b1, .int .u64 b2, .int .u64 b3]] w fun e w' =>
      e = .returned (.agg #[.int .u64 p0, .int .u64 p1, .int .u64 p2, .int .u64 p3, .int .u64 p4, .int .u64 p5, .int .u64 p6, .int .u64 p7]) ∧ Below w.heap.size w w') :
    Calls Tryd.prog 17 #[.agg #[.int .u64 a0, .int .u64 a1, .int .u64 a2, .int .u64 a3], .agg #[.int .u64 b0, .int .u64 b1, .int .u64 b2, .int .u64 b3]] w fun e w' =>
      e = .returned (.agg #[.int .u64 p0, .int .u64 p1, .int .u64 p2, .int .u64 p3]) ∧ Below w.heap.size w w' := by
  go_enter Tryd.func17, Tryd.ntmps17
  go_wp2_with fail
  refine (hP _).mono ?_
  rintro e w1 ⟨rfl, hb⟩
  obtain ⟨⟨q0, q1, q2, q3⟩, ⟨f0, f1, f2, f3⟩, hz, hb'⟩ := after4 (w := w) (B := w.heap.size) (w.heap.size + 1 + 1) hb (by go_grown) (by simp; omega) (by simp) (by go_cell) (by go_cell) (by go_cell) (by go_cell) (by go_cell) (by go_cell) (by go_cell) (by go_cell)
  clear hb
  go_wp2_with fail
  refine (narrow_walk p0 p1 p2 p3 p4 p5 p6 p7 _).mono ?_
  rintro e w2 ⟨rfl, hb⟩
  obtain ⟨⟨r0, r1, r2, r3⟩, ⟨g0, g1, g2, g3⟩, hy, hb''⟩ := after4 (w := w) (B := w.heap.size) (w.heap.size + 1 + 1) hb hb' hb'.size hz q0 q1 q2 q3 f0 f1 f2 f3
  clear hb q0 q1 q2 q3 f0 f1 f2 f3 hz
  go_wp2
  refine bodyPost_ret (by simp [results, Tryd.results17, go_sem, r0, r1, r2, r3]; try rfl) rfl ⟨rfl, ?_⟩
  go_grown

theorem wv_of_n8 {a0 a1 a2 a3 a4 a5 a6 a7 : Nat} (h0 : a0 < 18446744073709551616) (h1 : a1 < 18446744073709551616) (h2 : a2 < 18446744073709551616) (h3 : a3 < 18446744073709551616) :
    wv (n8 a0 a1 a2 a3 a4 a5 a6 a7) = .agg #[.int .u64 a0, .int .u64 a1, .int .u64 a2, .int .u64 a3] := by
  rw [← wv_n4 h0 h1 h2 h3]
  exact wv_congr (by unfold n8 n4; omega)

/-- WHAT Mul COMES TO. -/
theorem mul_any (x y : Nat) (w : World) :
    Calls Tryd.prog 17 #[wv x, wv y] w fun e w' => e = .returned (wv (x * y)) ∧ Below w.heap.size w w' := by
  obtain ⟨a0, a1, a2, a3, u0, u1, u2, u3, ea, na⟩ := wv_parts x
  obtain ⟨b0, b1, b2, b3, v0, v1, v2, v3, eb, nb⟩ := wv_parts y
  have hP := fun w => product_any x y w
  obtain ⟨p0, p1, p2, p3, p4, p5, p6, p7, l0, l1, l2, l3, l4, l5, l6, l7, ep, np⟩ := dv_parts ((x % 115792089237316195423570985008687907853269984665640564039457584007913129639936) * (y % 115792089237316195423570985008687907853269984665640564039457584007913129639936))
  rw [ea, eb, ep] at hP
  have hr : wv (x * y) = .agg #[.int .u64 p0, .int .u64 p1, .int .u64 p2, .int .u64 p3] := by
    rw [← wv_of_n8 (a4 := p4) (a5 := p5) (a6 := p6) (a7 := p7) l0 l1 l2 l3, np]
    refine wv_congr ?_
    rw [Nat.mod_mod_of_dvd _ (by decide), ← Nat.mul_mod]
  rw [ea, eb, hr]
  exact mul_walk a0 a1 a2 a3 b0 b1 b2 b3 p0 p1 p2 p3 p4 p5 p6 p7 w hP
end Go.Proofs.YthfadinocadhaaaDoor

/- bailiwicklaw01.WordRing answers true, called with any three words in any world. -/
import Derived.Test.YthfadinocadhaaaDoorRing
import Derived.Test.YthfadinocadhaaaDoorAlive
namespace Go.Proofs.YthfadinocadhaaaDoor
open Go.RowKit

theorem eqg_any (x : Nat) (o1 o2 : Operand) (w : World) : (eqGuard BinOp.eql 24 o1 o2 (wv x) (wv x)).run Tryd.prog w = .ok () w := by kernel_rfl
theorem eqb_any (x : Nat) (w : World) : (binOp BinOp.eql 24 (wv x) (wv x)).run Tryd.prog w = .ok (.bool true) w := by
  obtain ⟨x0, x1, x2, x3, -, -, -, -, ex, -⟩ := wv_parts x
  rw [ex]
  have h : ∀ w, (Op.equalIn 10000 24 (.agg #[.int .u64 x0, .int .u64 x1, .int .u64 x2, .int .u64 x3]) (.agg #[.int .u64 x0, .int .u64 x1, .int .u64 x2, .int .u64 x3])).run Tryd.prog w = .ok true w := fun w => by
    have := eqW x0 x1 x2 x3 x0 x1 x2 x3 w
    simpa using this
  go_simp

theorem ring_any (a b c : Nat) (w : World) : Calls Tryd.prog 10 #[wv a, wv b, wv c] w fun e w' => e = .returned (.bool true) ∧ Below w.heap.size w w' := by
  obtain ⟨a0, a1, a2, a3, -, -, -, -, ea, -⟩ := wv_parts a
  obtain ⟨b0, b1, b2, b3, -, -, -, -, eb, -⟩ := wv_parts b
  obtain ⟨c0, c1, c2, c3, -, -, -, -, ec, -⟩ := wv_parts c
  obtain ⟨s0, s1, s2, s3, -, -, -, -, es, -⟩ := wv_parts (a + b)
  have hs0 := fun w => add_any a b w
  have E1 : wv (a + b + (115792089237316195423570985008687907853269984665640564039457584007913129639936 - b % 115792089237316195423570985008687907853269984665640564039457584007913129639936)) = wv a := wv_congr (by omega)
  rw [ea, eb, es] at hs0
  have R := ring_walk a0 a1 a2 a3 b0 b1 b2 b3 c0 c1 c2 c3 s0 s1 s2 s3 (wv a) (wv b) (wv c) (wv (a + b)) (wv (a + b + c)) (wv (b + c)) (wv (a * b)) (wv (a * b * c)) (wv (b * c)) (wv ((a + b) * c)) (wv (a * c)) w hs0
    (eqb_any _) (eqg_any _) (eqb_any _) (eqg_any _) (eqb_any _) (eqg_any _) (eqb_any _) (eqg_any _) (eqb_any _) (eqg_any _) (eqb_any _) (eqg_any _) ea eb ec es
    (fun w => by rw [Nat.add_comm a b]; exact add_any b a w)
    (fun w => by have h := sub_any (a + b) b w; rw [E1] at h; exact h)
    (fun w => add_any (a + b) c w) (fun w => add_any b c w)
    (fun w => by rw [Nat.add_assoc]; exact add_any a (b + c) w)
    (fun w => mul_any a b w) (fun w => by rw [Nat.mul_comm a b]; exact mul_any b a w)
    (fun w => mul_any (a * b) c w) (fun w => mul_any b c w)
    (fun w => by rw [Nat.mul_assoc]; exact mul_any a (b * c) w)
    (fun w => mul_any (a + b) c w) (fun w => mul_any a c w)
    (fun w => by rw [Nat.add_mul]; exact add_any (a * c) (b * c) w) lives_any
  rw [ea, eb, ec]
  exact R
end Go.Proofs.YthfadinocadhaaaDoor

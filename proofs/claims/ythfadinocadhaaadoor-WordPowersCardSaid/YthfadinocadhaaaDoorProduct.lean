/- What the whole product of two words comes to (word.product), and the product (word.narrow, word.Mul), called with any words in any world. -/
import Derived.Test.YthfadinocadhaaaDoorMul
import Derived.Test.YthfadinocadhaaaDoorAdds
namespace Go.Proofs.YthfadinocadhaaaDoor
open Go.RowKit

set_option maxRecDepth 100000 in
set_option maxHeartbeats 4000000 in
theorem product_walk (a0 a1 a2 a3 b0 b1 b2 b3 p00 c00 p01 c01 p02 c02 p03 c03 p10 c10 p11 c11 p12 c12 p13 c13 p20 c20 p21 c21 p22 c22 p23 c23 p30 c30 p31 c31 p32 c32 p33 c33 : Nat) (w : World)
    (h00 : ∀ w, Calls Tryd.prog 91 #[.int .u64 a0, .int .u64 b0, .int .u64 0, .int .u64 0] w fun e w' => e = .returned (.tuple #[.int .u64 p00, .int .u64 c00]) ∧ w = w')
    (h01 : ∀ w, Calls Tryd.prog 91 #[.int .u64 a0, .int .u64 b1, .int .u64 0, .int .u64 c00] w fun e w' => e = .returned (.tuple #[.int .u64 p01, .int .u64 c01]) ∧ w = w')
    (h02 : ∀ w, Calls Tryd.prog 91 #[.int .u64 a0, .int .u64 b2, .int .u64 0, .int .u64 c01] w fun e w' => e = .returned (.tuple #[.int .u64 p02, .int .u64 c02]) ∧ w = w')
    (h03 : ∀ w, Calls Tryd.prog 91 #[.int .u64 a0, .int .u64 b3, .int .u64 0, .int .u64 c02] w fun e w' => e = .returned (.tuple #[.int .u64 p03, .int .u64 c03]) ∧ w = w')
    (h10 : ∀ w, Calls Tryd.prog 91 #[.int .u64 a1, .int .u64 b0, .int .u64 p01, .int .u64 0] w fun e w' => e = .returned (.tuple #[.int .u64 p10, .int .u64 c10]) ∧ w = w')
    (h11 : ∀ w, Calls Tryd.prog 91 #[.int .u64 a1, .int .u64 b1, .int .u64 p02, .int .u64 c10] w fun e w' => e = .returned (.tuple #[.int .u64 p11, .int .u64 c11]) ∧ w = w')
    (h12 : ∀ w, Calls Tryd.prog 91 #[.int .u64 a1, .int .u64 b2, .int .u64 p03, .int .u64 c11] w fun e w' => e = .returned (.tuple #[.int .u64 p12, .int .u64 c12]) ∧ w = w')
    (h13 : ∀ w, Calls Tryd.prog 91 #[.int .u64 a1, .int .u64 b3, .int .u64 c03, .int .u64 c12] w fun e w' => e = .returned (.tuple #[.int .u64 p13, .int .u64 c13]) ∧ w = w')
    (h20 : ∀ w, Calls Tryd.prog 91 #[.int .u64 a2, .int .u64 b0, .int .u64 p11, .int .u64 0] w fun e w' => e = .returned (.tuple #[.int .u64 p20, .int .u64 c20]) ∧ w = w')
    (h21 : ∀ w, Calls Tryd.prog 91 #[.int .u64 a2, .int .u64 b1, .int .u64 p12, .int .u64 c20] w fun e w' => e = .returned (.tuple #[.int .u64 p21, .int .u64 c21]) ∧ w = w')
    (h22 : ∀ w, Calls Tryd.prog 91 #[.int .u64 a2, .int .u64 b2, .int .u64 p13, .int .u64 c21] w fun e w' => e = .returned (.tuple #[.int .u64 p22, .int .u64 c22]) ∧ w = w')
    (h23 : ∀ w, Calls Tryd.prog 91 #[.int .u64 a2, .int .u64 b3, .int .u64 c13, .int .u64 c22] w fun e w' => e = .returned (.tuple #[.int .u64 p23, .int .u64 c23]) ∧ w = w')
    (h30 : ∀ w, Calls Tryd.prog 91 #[.int .u64 a3, .int .u64 b0, .int .u64 p21, .int .u64 0] w fun e w' => e = .returned (.tuple #[.int .u64 p30, .int .u64 c30]) ∧ w = w')
    (h31 : ∀ w, Calls Tryd.prog 91 #[.int .u64 a3, .int .u64 b1, .int .u64 p22, .int .u64 c30] w fun e w' => e = .returned (.tuple #[.int .u64 p31, .int .u64 c31]) ∧ w = w')
    (h32 : ∀ w, Calls Tryd.prog 91 #[.int .u64 a3, .int .u64 b2, .int .u64 p23, .int .u64 c31] w fun e w' => e = .returned (.tuple #[.int .u64 p32, .int .u64 c32]) ∧ w = w')
    (h33 : ∀ w, Calls Tryd.prog 91 #[.int .u64 a3, .int .u64 b3, .int .u64 c23, .int .u64 c32] w fun e w' => e = .returned (.tuple #[.int .u64 p33, .int .u64 c33]) ∧ w = w') :
    Calls Tryd.prog 67 #[.agg #[.int .u64 a0, .int .u64 a1, .int .u64 a2, .int .u64 a3], .agg #[.int .u64 b0, .int .u64 b1, .int .u64 b2, .int .u64 b3]] w fun e w' =>
      e = .returned (.agg #[.int .u64 p00, .int .u64 p10, .int .u64 p20, .int .u64 p30, .int .u64 p31, .int .u64 p32, .int .u64 p33, .int .u64 c33]) ∧ Below w.heap.size w w' := by
  have ia0 := index4_0; have ia1 := index4_1; have ia2 := index4_2; have ia3 := index4_3
  go_enter Tryd.func67, Tryd.ntmps67
  go_wp2
  refine wp_loop_rounds 5 ?_
  rw [rounds_succ]; go_wp2
  refine wp_loop_rounds 5 ?_
  rw [rounds_succ]; go_wp2_with fail
  refine (h00 _).mono ?_; rintro e w' ⟨rfl, rfl⟩; go_wp2
  rw [rounds_succ]; go_wp2_with fail
  refine (h01 _).mono ?_; rintro e w' ⟨rfl, rfl⟩; go_wp2
  rw [rounds_succ]; go_wp2_with fail
  refine (h02 _).mono ?_; rintro e w' ⟨rfl, rfl⟩; go_wp2
  rw [rounds_succ]; go_wp2_with fail
  refine (h03 _).mono ?_; rintro e w' ⟨rfl, rfl⟩; go_wp2
  rw [rounds_succ]; go_wp2
  rw [rounds_succ]; go_wp2
  refine wp_loop_rounds 5 ?_
  rw [rounds_succ]; go_wp2_with fail
  refine (h10 _).mono ?_; rintro e w' ⟨rfl, rfl⟩; go_wp2
  rw [rounds_succ]; go_wp2_with fail
  refine (h11 _).mono ?_; rintro e w' ⟨rfl, rfl⟩; go_wp2
  rw [rounds_succ]; go_wp2_with fail
  refine (h12 _).mono ?_; rintro e w' ⟨rfl, rfl⟩; go_wp2
  rw [rounds_succ]; go_wp2_with fail
  refine (h13 _).mono ?_; rintro e w' ⟨rfl, rfl⟩; go_wp2
  rw [rounds_succ]; go_wp2
  rw [rounds_succ]; go_wp2
  refine wp_loop_rounds 5 ?_
  rw [rounds_succ]; go_wp2_with fail
  refine (h20 _).mono ?_; rintro e w' ⟨rfl, rfl⟩; go_wp2
  rw [rounds_succ]; go_wp2_with fail
  refine (h21 _).mono ?_; rintro e w' ⟨rfl, rfl⟩; go_wp2
  rw [rounds_succ]; go_wp2_with fail
  refine (h22 _).mono ?_; rintro e w' ⟨rfl, rfl⟩; go_wp2
  rw [rounds_succ]; go_wp2_with fail
  refine (h23 _).mono ?_; rintro e w' ⟨rfl, rfl⟩; go_wp2
  rw [rounds_succ]; go_wp2
  rw [rounds_succ]; go_wp2
  refine wp_loop_rounds 5 ?_
  rw [rounds_succ]; go_wp2_with fail
  refine (h30 _).mono ?_; rintro e w' ⟨rfl, rfl⟩; go_wp2
  rw [rounds_succ]; go_wp2_with fail
  refine (h31 _).mono ?_; rintro e w' ⟨rfl, rfl⟩; go_wp2
  rw [rounds_succ]; go_wp2_with fail
  refine (h32 _).mono ?_; rintro e w' ⟨rfl, rfl⟩; go_wp2
  rw [rounds_succ]; go_wp2_with fail
  refine (h33 _).mono ?_; rintro e w' ⟨rfl, rfl⟩; go_wp2
  rw [rounds_succ]; go_wp2
  rw [rounds_succ]; go_wp2
  go_returns
  exact ⟨rfl, by go_grown⟩
end Go.Proofs.YthfadinocadhaaaDoor

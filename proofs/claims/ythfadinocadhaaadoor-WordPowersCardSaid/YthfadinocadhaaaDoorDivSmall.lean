/- What word.divide comes to for one part by a greater one that has its highest bit: nought, and that part. -/
import Derived.Test.YthfadinocadhaaaDoorDivide
namespace Go.Proofs.YthfadinocadhaaaDoor
open Go.RowKit

theorem wv_one {x : Nat} (h : x < 18446744073709551616) : wv x = .agg #[.int .u64 x, .int .u64 0, .int .u64 0, .int .u64 0] := by
  have := wv_n4 (a0 := x) (a1 := 0) (a2 := 0) (a3 := 0) h (by omega) (by omega) (by omega)
  rw [show n4 x 0 0 0 = x by unfold n4; omega] at this
  exact this
theorem wv_zero : wv 0 = .agg #[.int .u64 0, .int .u64 0, .int .u64 0, .int .u64 0] := wv_one (by omega)

theorem raise_zero (x : Nat) (hx : x < 18446744073709551616) (w : World) : Calls Tryd.prog 96 #[.agg #[.int .u64 x, .int .u64 0, .int .u64 0, .int .u64 0, .int .u64 0, .int .u64 0, .int .u64 0, .int .u64 0], .int .i64 0] w fun e w' => e = .returned (.agg #[.int .u64 x, .int .u64 0, .int .u64 0, .int .u64 0, .int .u64 0, .int .u64 0, .int .u64 0, .int .u64 0, .int .u64 0]) ∧ Below w.heap.size w w' := by
  have h := raise_walk x 0 0 0 0 0 0 0 0 64 (by omega) (by omega) (by omega) w
  have e0 : bits .or .u64 0 (IntKind.u64.wrap ((x : Int) * 2 ^ 0)) = (x : Int) := by
    have := cmb_down (p := 0) (q := x) (s := 64) (t := 0) (by omega) (by omega)
    simp only [Nat.zero_div, Nat.zero_add, Nat.pow_zero, Nat.mul_one, Nat.mod_eq_of_lt hx] at this
    exact this
  have e1 : bits .or .u64 ((x : Int) / 2 ^ 64) (IntKind.u64.wrap (((0 : Nat) : Int) * 2 ^ 0)) = 0 := by
    have := cmb_down (p := x) (q := 0) (s := 64) (t := 0) hx (by omega)
    rw [Nat.zero_mul, Nat.zero_mod, Nat.div_eq_of_lt (show x < 2 ^ 64 by omega)] at this
    exact this
  have e2 : bits .or .u64 (((0 : Nat) : Int) / 2 ^ 64) (IntKind.u64.wrap (((0 : Nat) : Int) * 2 ^ 0)) = 0 := by
    have := cmb_down (p := 0) (q := 0) (s := 64) (t := 0) (by omega) (by omega)
    rw [Nat.zero_mul, Nat.zero_mod, Nat.zero_div] at this
    exact this
  have e3 : (((0 : Nat) : Int) / 2 ^ 64) = 0 := by simp
  rw [e0, e1, e2, e3] at h
  exact h

theorem step_one (x b : Nat) (hx : x < b) (hb0 : 9223372036854775808 ≤ b) (hb1 : b < 18446744073709551616) (S D : Nat) (w : World) (hne : D ≠ S) (c0 : w.cell? ⟨S, 0, none⟩ = some (.int .u64 x)) (c1 : w.cell? ⟨S, 1, none⟩ = some (.int .u64 0)) (f0 : w.frozen? ⟨S, 0, none⟩ = false) (f1 : w.frozen? ⟨S, 1, none⟩ = false) (d0 : w.cell? ⟨D, 0, none⟩ = some (.int .u64 b)) :
    Calls Tryd.prog 97 #[.slice (some ⟨S, 0, none⟩) 2 9, .slice (some ⟨D, 0, none⟩) 1 4] w (OnePost S x w) := by
  have hr : val (fun j => if j = 0 then x else 0) 2 = x := by simp [val]
  have hd : val (fun _ => b) 1 = b := by simp [val]
  have h := step_any S 0 9 D 4 0 (fun j => if j = 0 then x else 0) (fun _ => b) (by omega) (fun j _ => by show (if j = 0 then x else 0) < 18446744073709551616; split <;> omega) (fun _ _ => hb1) hb0 (by rw [hr, hd]; omega) hne w
    (fun j hj => by
      rcases j with _ | _ | j
      · exact c0
      · exact c1
      · omega)
    (fun j hj => by
      rcases j with _ | _ | j
      · exact f0
      · exact f1
      · omega)
    (fun j hj => by
      rcases j with _ | j
      · exact d0
      · omega)
  refine h.mono fun e w' ⟨ns, he, hb, hv, ho⟩ => ?_
  rw [hr, hd, Nat.div_eq_of_lt hx] at he
  rw [hr, hd, Nat.mod_eq_of_lt hx] at hv
  have h0 := hb 0 (by omega)
  have h1 := hb 1 (by omega)
  simp only [val, Nat.pow_zero, Nat.zero_add, Nat.one_mul, Nat.pow_one] at hv
  have n1 : ns 1 = 0 := by omega
  have n0 : ns 0 = x := by omega
  refine ⟨he, ho.1, ?_, ?_, ?_, ?_⟩
  · rw [ho.2 0, if_pos (by omega), n0]
  · rw [ho.2 1, if_pos (by omega), n1]; rfl
  · rw [ho.2 2, if_neg (by omega)]
  · rw [ho.2 3, if_neg (by omega)]

theorem parts_one (x n : Nat) (hx : x ≠ 0) (hn : (n : Int) ≤ 1000) (B : Nat) (w : World) (hc : ∀ j, j < n + 1 → w.cell? ⟨B, 0 + j, none⟩ = some (.int .u64 ((if j = 0 then x else 0 : Nat) : Int))) :
    Calls Tryd.prog 94 #[.slice (some ⟨B, 0, none⟩) ((n + 1 : Nat)) ((n + 1 : Nat))] w fun e w' => e = .returned (.int .i64 1) ∧ w = w' := by
  have h := parts_any B 0 (n + 1) (n + 1) (fun j => if j = 0 then x else 0) (by omega) w hc
  have e : ∀ k, np (fun j => if j = 0 then x else 0) (k + 1) = 1 := fun k => by
    induction k with
    | zero => simp [np, hx]
    | succ k ih => rw [np, if_pos (by simp)]; exact ih
  rw [e] at h
  exact h

-- WHAT divide COMES TO, one part by a greater one.
theorem divide_small (x b : Nat) (hx0 : x ≠ 0) (hx : x < b) (hb0 : 9223372036854775808 ≤ b) (hb1 : b < 18446744073709551616) (w : World) :
    Calls Tryd.prog 74 #[.agg #[.int .u64 x, .int .u64 0, .int .u64 0, .int .u64 0, .int .u64 0, .int .u64 0, .int .u64 0, .int .u64 0], .agg #[.int .u64 b, .int .u64 0, .int .u64 0, .int .u64 0]] w fun e w' => e = .returned (.tuple #[.agg #[.int .u64 0, .int .u64 0, .int .u64 0, .int .u64 0, .int .u64 0, .int .u64 0, .int .u64 0, .int .u64 0], .agg #[.int .u64 x, .int .u64 0, .int .u64 0, .int .u64 0]]) ∧ Below w.heap.size w w' := by
  have hz : Lib.bitLen ((b : Int)).toNat = 64 := by rw [Int.toNat_natCast]; exact bitLen_full b hb1 hb0
  refine divide_one x b w (fun B w c0 c1 c2 c3 => parts_one b 3 (by omega) (by omega) B w (fun j hj => by
      rcases j with _ | _ | _ | _ | j
      · exact c0
      · exact c1
      · exact c2
      · exact c3
      · omega))
    (fun w => (Tryd.bits_LeadingZeros64 b w (by omega) (by omega)).mono fun e w' ⟨he, hw⟩ => ⟨by rw [he, hz]; rfl, hw.symm⟩)
    (fun w => by
      have h := shl_any 0 b w
      rw [show min (0 % 115792089237316195423570985008687907853269984665640564039457584007913129639936) 256 = 0 by rfl, Nat.pow_zero, Nat.mul_one, wv_zero, wv_one hb1] at h
      exact h)
    (fun w => raise_zero x (by omega) w)
    (fun B w c0 c1 c2 c3 c4 c5 c6 c7 => parts_one x 7 hx0 (by omega) B w (fun j hj => by
      rcases j with _ | _ | _ | _ | _ | _ | _ | _ | j
      · exact c0
      · exact c1
      · exact c2
      · exact c3
      · exact c4
      · exact c5
      · exact c6
      · exact c7
      · omega))
    (fun S D w hne c0 c1 f0 f1 d0 => step_one x b hx hb0 hb1 S D w hne c0 c1 f0 f1 d0)
    (fun w => by
      have h := shr_any 0 x w
      rw [show min (0 % 115792089237316195423570985008687907853269984665640564039457584007913129639936) 256 = 0 by rfl, Nat.pow_zero, Nat.div_one, Nat.mod_eq_of_lt (by omega), wv_zero, wv_one (by omega)] at h
      exact h)
end Go.Proofs.YthfadinocadhaaaDoor

/- What word.SCmp, bailiwickref01.Cmp, Signed, SCmp come to, called with any words. -/
import Derived.Test.YthfadinocadhaaaDoorAddsAny
import Derived.Test.YthfadinocadhaaaDoorLess
import Derived.Test.YthfadinocadhaaaDoorQL
namespace Go.Proofs.YthfadinocadhaaaDoor
open Go.RowKit

theorem xor_top {a : Nat} (h : a < 18446744073709551616) : bits .xor .u64 (a : Int) 9223372036854775808 = (((a + 9223372036854775808) % 18446744073709551616 : Nat) : Int) := by
  have e : a ^^^ 9223372036854775808 = (a + 9223372036854775808) % 18446744073709551616 := by
    apply Nat.eq_of_testBit_eq
    intro i
    rw [Nat.testBit_xor, show (18446744073709551616 : Nat) = 2 ^ 64 by rfl, Nat.testBit_mod_two_pow, show (9223372036854775808 : Nat) = 2 ^ 63 by rfl, Nat.testBit_two_pow, Nat.add_comm a]
    rcases Nat.lt_trichotomy i 63 with hi | hi | hi
    · rw [Nat.testBit_two_pow_add_gt hi]
      simp [show i < 64 by omega, show ¬ 63 = i by omega]
    · subst hi
      rw [Nat.testBit_two_pow_add_eq]
      simp
    · have ha : a.testBit i = false := Nat.testBit_lt_two_pow (Nat.lt_of_lt_of_le h (by have := Nat.pow_le_pow_right (n := 2) (by omega) (show 64 ≤ i by omega); omega))
      simp [show ¬ i < 64 by omega, show ¬ 63 = i by omega, ha]
  have := bits_xor_u64_nat a 9223372036854775808 h (by omega)
  rw [e] at this
  exact this

/-- The order of signed ones: with the highest bit turned about. -/
def sord (x y : Nat) : Int := ord ((x % 115792089237316195423570985008687907853269984665640564039457584007913129639936 + 57896044618658097711785492504343953926634992332820282019728792003956564819968) % 115792089237316195423570985008687907853269984665640564039457584007913129639936) ((y % 115792089237316195423570985008687907853269984665640564039457584007913129639936 + 57896044618658097711785492504343953926634992332820282019728792003956564819968) % 115792089237316195423570985008687907853269984665640564039457584007913129639936)

set_option maxRecDepth 100000 in
set_option maxHeartbeats 1000000 in
theorem scmp_walk (a0 a1 a2 a3 b0 b1 b2 b3 p q : Nat) (r : Value) (w : World) (hp : bits .xor .u64 (a3 : Int) 9223372036854775808 = (p : Int)) (hq : bits .xor .u64 (b3 : Int) 9223372036854775808 = (q : Int))
    (hC : ∀ w, Calls Tryd.prog 22 #[.agg #[.int .u64 a0, .int .u64 a1, .int .u64 a2, .int .u64 p], .agg #[.int .u64 b0, .int .u64 b1, .int .u64 b2, .int .u64 q]] w fun e w' => e = .returned r ∧ Below w.heap.size w w') :
    Calls Tryd.prog 47 #[.agg #[.int .u64 a0, .int .u64 a1, .int .u64 a2, .int .u64 a3], .agg #[.int .u64 b0, .int .u64 b1, .int .u64 b2, .int .u64 b3]] w fun e w' => e = .returned r ∧ Below w.heap.size w w' := by
  go_enter Tryd.func47, Tryd.ntmps47
  go_wp2_with fail
  refine (hC _).mono ?_
  rintro e w1 ⟨rfl, hb⟩
  have hb' : Below w.heap.size w w1 := Below.trans (by go_grown) (hb.mono (by simp; omega))
  clear hb
  go_wp2
  go_ret
  exact ⟨rfl, hb'⟩
-- WHAT SCmp COMES TO.
theorem scmp_any (x y : Nat) (w : World) : Calls Tryd.prog 47 #[wv x, wv y] w fun e w' => e = .returned (.int .i64 (sord x y)) ∧ Below w.heap.size w w' := by
  obtain ⟨a0, a1, a2, a3, u0, u1, u2, u3, ea, na⟩ := wv_parts x
  obtain ⟨b0, b1, b2, b3, v0, v1, v2, v3, eb, nb⟩ := wv_parts y
  rw [ea, eb]
  refine scmp_walk a0 a1 a2 a3 b0 b1 b2 b3 _ _ _ w (xor_top u3) (xor_top v3) (fun w => ?_)
  have e1 : n4 a0 a1 a2 ((a3 + 9223372036854775808) % 18446744073709551616) % 115792089237316195423570985008687907853269984665640564039457584007913129639936 = (x % 115792089237316195423570985008687907853269984665640564039457584007913129639936 + 57896044618658097711785492504343953926634992332820282019728792003956564819968) % 115792089237316195423570985008687907853269984665640564039457584007913129639936 := by rw [← na]; unfold n4; omega
  have e2 : n4 b0 b1 b2 ((b3 + 9223372036854775808) % 18446744073709551616) % 115792089237316195423570985008687907853269984665640564039457584007913129639936 = (y % 115792089237316195423570985008687907853269984665640564039457584007913129639936 + 57896044618658097711785492504343953926634992332820282019728792003956564819968) % 115792089237316195423570985008687907853269984665640564039457584007913129639936 := by rw [← nb]; unfold n4; omega
  have h := cmp_any (n4 a0 a1 a2 ((a3 + 9223372036854775808) % 18446744073709551616)) (n4 b0 b1 b2 ((b3 + 9223372036854775808) % 18446744073709551616)) w
  rw [e1, e2, wv_n4 u0 u1 u2 (by omega), wv_n4 v0 v1 v2 (by omega)] at h
  exact h

theorem parts_eq {x0 x1 x2 x3 y0 y1 y2 y3 : Nat} (u0 : x0 < 18446744073709551616) (u1 : x1 < 18446744073709551616) (u2 : x2 < 18446744073709551616) (_u3 : x3 < 18446744073709551616) (v0 : y0 < 18446744073709551616) (v1 : y1 < 18446744073709551616) (v2 : y2 < 18446744073709551616) (_v3 : y3 < 18446744073709551616) :
    ((x0 == y0) && ((x1 == y1) && ((x2 == y2) && (x3 == y3)))) = decide (n4 x0 x1 x2 x3 = n4 y0 y1 y2 y3) := by
  by_cases h : n4 x0 x1 x2 x3 = n4 y0 y1 y2 y3
  · rw [decide_eq_true h]
    unfold n4 at h
    have h0 : x0 = y0 := by omega
    have h1 : x1 = y1 := by omega
    have h2 : x2 = y2 := by omega
    have h3 : x3 = y3 := by omega
    subst h0 h1 h2 h3
    simp
  · rw [decide_eq_false h, Bool.eq_false_iff]
    intro hc
    simp only [Bool.and_eq_true, beq_iff_eq] at hc
    obtain ⟨rfl, rfl, rfl, rfl⟩ := hc
    exact h rfl
theorem eqIn (x y : Nat) : ∃ r : Bool, r = decide (x % 115792089237316195423570985008687907853269984665640564039457584007913129639936 = y % 115792089237316195423570985008687907853269984665640564039457584007913129639936) ∧ ∃ a b : Array Value, wv x = .agg a ∧ wv y = .agg b ∧ ∀ w, (Op.equalIn 10000 24 (.agg a) (.agg b)).run Tryd.prog w = .ok r w := by
  obtain ⟨x0, x1, x2, x3, u0, u1, u2, u3, ex, nx⟩ := wv_parts x
  obtain ⟨y0, y1, y2, y3, v0, v1, v2, v3, ey, ny⟩ := wv_parts y
  refine ⟨_, rfl, _, _, ex, ey, fun w => ?_⟩
  rw [← nx, ← ny, ← parts_eq u0 u1 u2 u3 v0 v1 v2 v3]
  exact eqW x0 x1 x2 x3 y0 y1 y2 y3 w
theorem nebx (x y : Nat) (w : World) : (binOp BinOp.neq 24 (wv x) (wv y)).run Tryd.prog w = .ok (.bool (decide (x % 115792089237316195423570985008687907853269984665640564039457584007913129639936 ≠ y % 115792089237316195423570985008687907853269984665640564039457584007913129639936))) w := by
  obtain ⟨r, hr, a, b, ea, eb, h⟩ := eqIn x y
  have e2 : decide (x % 115792089237316195423570985008687907853269984665640564039457584007913129639936 ≠ y % 115792089237316195423570985008687907853269984665640564039457584007913129639936) = !r := by rw [hr]; simp
  rw [e2, ea, eb]
  clear e2 hr ea eb
  go_simp
theorem negx (x y : Nat) (o1 o2 : Operand) (w : World) : (eqGuard BinOp.neq 24 o1 o2 (wv x) (wv y)).run Tryd.prog w = .ok () w := by kernel_rfl
theorem eqbx (x y : Nat) (w : World) : (binOp BinOp.eql 24 (wv x) (wv y)).run Tryd.prog w = .ok (.bool (decide (x % 115792089237316195423570985008687907853269984665640564039457584007913129639936 = y % 115792089237316195423570985008687907853269984665640564039457584007913129639936))) w := by
  obtain ⟨r, hr, a, b, ea, eb, h⟩ := eqIn x y
  rw [← hr, ea, eb]
  clear hr ea eb
  go_simp
theorem eqgx (x y : Nat) (o1 o2 : Operand) (w : World) : (eqGuard BinOp.eql 24 o1 o2 (wv x) (wv y)).run Tryd.prog w = .ok () w := by kernel_rfl

theorem CW2.lt {w wx : World} {x y : Nat} (h : CW2 w x y wx) : w.heap.size < wx.heap.size := (Array.getElem?_eq_some_iff.1 h.2.1).1

set_option maxRecDepth 100000 in
set_option maxHeartbeats 2000000 in
-- WHAT bailiwickref01.Cmp COMES TO.
theorem cmp_ref (x y : Nat) (w : World) : Calls Tryd.prog 48 #[.agg (pw x), .agg (pw y)] w fun e w' => e = .returned (.int .i64 (ord (x % 115792089237316195423570985008687907853269984665640564039457584007913129639936) (y % 115792089237316195423570985008687907853269984665640564039457584007913129639936))) ∧ Below w.heap.size w w' := by
  have L1 := Lib.hid (fun wx (hC : CW2 w x y wx) => load_pw hC.2.1)
  have L2 := Lib.hid (fun wx (hC : CW2 w x y wx) => load_pw hC.2.2)
  go_enter Tryd.func48, Tryd.ntmps48
  go_wp2_with fail
  refine region_inv (CW2 w x y) (fun i v wx => match i with | 0 => v = wv x | 1 => DgS w.heap.size 16 (x % 115792089237316195423570985008687907853269984665640564039457584007913129639936) v wx | 2 => v = wv y | 3 => DgS w.heap.size 16 (y % 115792089237316195423570985008687907853269984665640564039457584007913129639936) v wx | 4 => v = .bool (decide (x % 115792089237316195423570985008687907853269984665640564039457584007913129639936 < y % 115792089237316195423570985008687907853269984665640564039457584007913129639936)) | _ => True) (Rb w.heap.size) (by kernel_rfl) (by kernel_rfl) ?_ ?_ ?_ ?_
  · exact ⟨Below.drew (by go_grown), heap_alloc2_old _ _ _, heap_alloc2_new _ _ _⟩
  · intro i v wa wb hR h
    match i, h with
    | 0, h => exact h
    | 1, h => exact DgS.keep hR h
    | 2, h => exact h
    | 3, h => exact DgS.keep hR h
    | 4, h => exact h
    | _ + 5, _ => trivial
  · refine ⟨fun a wx hC hK => ?_, fun a wx hC hK => ?_, fun a wx hC hK => ?_, fun a wx hC hK => ?_, fun a wx hC hK => ?_, trivial⟩
    · exact st_load 24 (.tmp 2) (.pointer (some ⟨w.heap.size, 0, none⟩)) (wv x) rfl (by kernel_rfl) (fun h => by cases h) (hK.1 2 (by kernel_rfl)) (load_pw hC.2.1) hC rfl (Rb.refl _ _)
    · have h0 : a.tmps.getD 5 undef = wv x := hK.2 ⟨0, .data⟩ (by simp) rfl _ rfl
      refine st_call 63 #[a.tmps.getD 5 undef] (by kernel_rfl) ⟨_, rfl⟩ (by kernel_rfl) ?_
      rw [h0]
      refine (digits_any x wx).mono fun e w' h => ?_
      obtain ⟨v, he, hb, hv⟩ := mk_step hC.lt h
      exact ⟨v, he, hC.below hb, hv, Rb.of hb⟩
    · exact st_load 24 (.tmp 3) (.pointer (some ⟨w.heap.size + 1, 0, none⟩)) (wv y) rfl (by kernel_rfl) (fun h => by cases h) (hK.1 3 (by kernel_rfl)) (load_pw hC.2.2) hC rfl (Rb.refl _ _)
    · have h0 : a.tmps.getD 7 undef = wv y := hK.2 ⟨2, .data⟩ (by simp) rfl _ rfl
      refine st_call 63 #[a.tmps.getD 7 undef] (by kernel_rfl) ⟨_, rfl⟩ (by kernel_rfl) ?_
      rw [h0]
      refine (digits_any y wx).mono fun e w' h => ?_
      obtain ⟨v, he, hb, hv⟩ := mk_step hC.lt h
      exact ⟨v, he, hC.below hb, hv, Rb.of hb⟩
    · obtain ⟨b1, c1, d1, e1, -, hD1, hl1, hv1⟩ : DgS w.heap.size 16 (x % 115792089237316195423570985008687907853269984665640564039457584007913129639936) (a.tmps.getD 6 undef) wx := hK.2 ⟨1, .data⟩ (by simp) rfl _ rfl
      obtain ⟨b2, c2, d2, e2, -, hD2, hl2, hv2⟩ : DgS w.heap.size 16 (y % 115792089237316195423570985008687907853269984665640564039457584007913129639936) (a.tmps.getD 8 undef) wx := hK.2 ⟨3, .data⟩ (by simp) rfl _ rfl
      refine st_call 85 #[a.tmps.getD 6 undef, a.tmps.getD 8 undef] (by kernel_rfl) ⟨_, rfl⟩ (by kernel_rfl) ?_
      rw [e1, e2]
      refine (less_any b1 c1 b2 c2 16 16 d1 d2 (by decide) (by decide) hl1 hl2 wx hD1 hD2).mono fun e w' h => ?_
      rw [hv1, hv2] at h
      obtain ⟨he, rfl⟩ := h
      exact ⟨_, he, hC, rfl, Rb.refl _ _⟩
  · intro f wx hC hf
    have h4 : f _ = Value.bool (decide (x % 115792089237316195423570985008687907853269984665640564039457584007913129639936 < y % 115792089237316195423570985008687907853269984665640564039457584007913129639936)) := hf 4 _ rfl
    simp only [putAll]
    rw [h4]
    clear hf h4
    by_cases hlt : x % 115792089237316195423570985008687907853269984665640564039457584007913129639936 < y % 115792089237316195423570985008687907853269984665640564039457584007913129639936
    · rw [decide_eq_true hlt]
      have ho : ord (x % 115792089237316195423570985008687907853269984665640564039457584007913129639936) (y % 115792089237316195423570985008687907853269984665640564039457584007913129639936) = -1 := by unfold ord; rw [if_pos hlt]
      have HO := Lib.hid ho
      clear ho hlt
      go_simp
      go_wp2
      go_ret
      exact ⟨by rw [HO.out]; rfl, hC.1⟩
    · rw [decide_eq_false hlt]
      go_simp
      go_upto_region 3 with (fail)
      refine q_region (CW2 w x y) hC ?_
      with_reducible refine q_load 24 (.tmp 2) (.pointer (some ⟨w.heap.size, 0, none⟩)) (wv x) rfl (by kernel_rfl) (by kernel_rfl) L1.out ?_
      with_reducible refine q_load 24 (.tmp 3) (.pointer (some ⟨w.heap.size + 1, 0, none⟩)) (wv y) rfl (by kernel_rfl) (by kernel_rfl) L2.out ?_
      with_reducible refine q_bin .neq 24 _ _ 24 (wv x) (wv y) (.bool (decide (x % 115792089237316195423570985008687907853269984665640564039457584007913129639936 ≠ y % 115792089237316195423570985008687907853269984665640564039457584007913129639936))) rfl (by kernel_rfl) (by kernel_rfl) (by kernel_rfl) (negx _ _ _ _) (nebx _ _) ?_
      with_reducible refine wpQuiet_nil ?_
      intro wx2 hC2
      have hB2 := hC2.1
      clear hC2 hC L1 L2
      by_cases heq : x % 115792089237316195423570985008687907853269984665640564039457584007913129639936 = y % 115792089237316195423570985008687907853269984665640564039457584007913129639936
      · have ho : ord (x % 115792089237316195423570985008687907853269984665640564039457584007913129639936) (y % 115792089237316195423570985008687907853269984665640564039457584007913129639936) = 0 := by unfold ord; rw [if_neg hlt, if_neg (by omega)]
        rw [decide_eq_false (by omega)]
        have HO := Lib.hid ho
        clear ho heq hlt
        go_simp
        go_wp2
        go_ret
        exact ⟨by rw [HO.out]; rfl, hB2⟩
      · have ho : ord (x % 115792089237316195423570985008687907853269984665640564039457584007913129639936) (y % 115792089237316195423570985008687907853269984665640564039457584007913129639936) = 1 := by unfold ord; rw [if_neg hlt, if_pos (by omega)]
        rw [decide_eq_true heq]
        have HO := Lib.hid ho
        clear ho heq hlt
        go_simp
        go_wp2
        go_ret
        exact ⟨by rw [HO.out]; rfl, hB2⟩

set_option maxRecDepth 100000 in
set_option maxHeartbeats 1000000 in
theorem signed_neg (a0 a1 a2 a3 p0 p1 p2 p3 : Nat) (ht : ((a3 : Int) / 9223372036854775808 == 1) = true) (w : World)
    (hN : ∀ w, Calls Tryd.prog 65 #[.agg #[.int .u64 a0, .int .u64 a1, .int .u64 a2, .int .u64 a3]] w fun e w' => e = .returned (.agg #[.int .u64 p0, .int .u64 p1, .int .u64 p2, .int .u64 p3]) ∧ Below w.heap.size w w') :
    Calls Tryd.prog 73 #[.agg #[.int .u64 a0, .int .u64 a1, .int .u64 a2, .int .u64 a3]] w fun e w' => e = .returned (.tuple #[.bool true, .agg #[.int .u64 p0, .int .u64 p1, .int .u64 p2, .int .u64 p3]]) ∧ Below w.heap.size w w' := by
  go_enter Tryd.func73, Tryd.ntmps73
  go_wp2_with fail
  refine (hN _).mono ?_
  rintro e w1 ⟨rfl, hb⟩
  obtain ⟨⟨q0, q1, q2, q3⟩, ⟨f0, f1, f2, f3⟩, hz, hb'⟩ := after4 (w := w) (B := w.heap.size) (w.heap.size + 1) hb (by go_grown) (by simp; omega) (by simp) (by go_cell) (by go_cell) (by go_cell) (by go_cell) (by go_cell) (by go_cell) (by go_cell) (by go_cell)
  clear hb
  go_wp2
  refine bodyPost_ret (v := .tuple #[.bool true, .agg #[.int .u64 p0, .int .u64 p1, .int .u64 p2, .int .u64 p3]]) (by simp [results, Tryd.results73, go_sem, q0, q1, q2, q3]; try rfl) rfl ⟨rfl, ?_⟩
  go_grown

set_option maxRecDepth 100000 in
set_option maxHeartbeats 1000000 in
theorem signed_pos (a0 a1 a2 a3 : Nat) (ht : ((a3 : Int) / 9223372036854775808 == 1) = false) (w : World) :
    Calls Tryd.prog 73 #[.agg #[.int .u64 a0, .int .u64 a1, .int .u64 a2, .int .u64 a3]] w fun e w' => e = .returned (.tuple #[.bool false, .agg #[.int .u64 a0, .int .u64 a1, .int .u64 a2, .int .u64 a3]]) ∧ Below w.heap.size w w' := by
  go_enter Tryd.func73, Tryd.ntmps73
  go_wp2
  go_region
  all_goals (go_wp2; refine bodyPost_ret (v := .tuple #[.bool false, .agg #[.int .u64 a0, .int .u64 a1, .int .u64 a2, .int .u64 a3]]) (by simp [results, Tryd.results73, go_sem]; try rfl) rfl ⟨rfl, ?_⟩; go_grown)

/-- Is a word below nought, as a signed one? -/
def negB (x : Nat) : Bool := decide (57896044618658097711785492504343953926634992332820282019728792003956564819968 ≤ x % 115792089237316195423570985008687907853269984665640564039457584007913129639936)
-- WHAT bailiwickref01.Signed COMES TO.
theorem signed_ref (x : Nat) (w : World) : Calls Tryd.prog 73 #[wv x] w fun e w' => e = .returned (.tuple #[.bool (negB x), wv (if negB x then 115792089237316195423570985008687907853269984665640564039457584007913129639936 - x % 115792089237316195423570985008687907853269984665640564039457584007913129639936 else x)]) ∧ Below w.heap.size w w' := by
  obtain ⟨a0, a1, a2, a3, u0, u1, u2, u3, ea, na⟩ := wv_parts x
  have hneg : negB x = decide (9223372036854775808 ≤ a3) := by
    unfold negB
    rw [← na]
    exact bdec (by unfold n4; omega)
  rw [hneg]
  by_cases h : 9223372036854775808 ≤ a3
  · rw [decide_eq_true h, if_pos rfl]
    obtain ⟨p0, p1, p2, p3, -, -, -, -, ep, -⟩ := wv_parts (115792089237316195423570985008687907853269984665640564039457584007913129639936 - x % 115792089237316195423570985008687907853269984665640564039457584007913129639936)
    have hN := fun w => neg_ref x w
    rw [ep, ea] at hN
    rw [ep, ea]
    exact signed_neg a0 a1 a2 a3 p0 p1 p2 p3 (by rw [beq_iff_eq]; omega) w hN
  · rw [decide_eq_false h, if_neg Bool.false_ne_true, ea]
    exact signed_pos a0 a1 a2 a3 (by rw [beq_eq_false_iff_ne]; omega) w
end Go.Proofs.YthfadinocadhaaaDoor
